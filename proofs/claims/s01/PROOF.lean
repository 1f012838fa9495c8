import PyProof.Rows.All
import Wide.All
import OpenK.AllK
import Wide.FinOn
import Open.SpecLaws
import KE.OsGo
import HandS.ForSpec
import HandS.ExcInit
import HandS.ExcField
import HandS.ClsMeth
import KE.DataMinMax
import HandS.SortKw
import HandS.CallLocal
import HandS.TryMany
import HandS.Comp
import HandS.Iter
import HandS.Dict
import HandS.Conv
import HandS.SortRule
import HandS.WideBits
import PySem.Challenge.RW_tendwall_s01_answers
set_option Elab.async false
/-! # Tours on a wall: the closed form of the least cycle time, and the first of the best tours -/
namespace Tw
open Sr120
/-! ### distances -/
theorem dist_self (a : Nat) : distance a a = 0 := by unfold distance; omega
theorem dist_comm (a b : Nat) : distance a b = distance b a := by unfold distance; omega
theorem dist_tri (a b c : Nat) : distance a c ≤ distance a b + distance b c := by unfold distance; omega
abbrev pos (w : Workshop) (i : Nat) : Nat := (machineAt w i).position
/-! ### a way that begins at a, ends at f and passes x is no shorter than by x alone -/
theorem walk_one (w : Workshop) (f x : Nat) : ∀ (a : Nat) (r : List Nat), x ∈ a :: r →
    distance (pos w a) (pos w x) + distance (pos w x) (pos w f) ≤ walkFrom w f (a :: r)
  | a, [], h => by
    have e : x = a := by simpa using h
    subst e
    show _ ≤ distance (pos w x) (pos w f)
    rw [dist_self]
    omega
  | a, b :: r, h => by
    show _ ≤ distance (pos w a) (pos w b) + walkFrom w f (b :: r)
    rcases List.mem_cons.mp h with e | h
    · subst e
      have q := walk_one w f b b r (List.mem_cons_self ..)
      have t := dist_tri (pos w x) (pos w b) (pos w f)
      rw [dist_self] at q ⊢
      omega
    · have q := walk_one w f x b r h
      have t := dist_tri (pos w a) (pos w b) (pos w x)
      omega
theorem walk_two (w : Workshop) (f x y : Nat) : ∀ (a : Nat) (r : List Nat), x ∈ a :: r → y ∈ a :: r →
    distance (pos w a) (pos w x) + distance (pos w x) (pos w y) + distance (pos w y) (pos w f) ≤ walkFrom w f (a :: r) ∨
    distance (pos w a) (pos w y) + distance (pos w y) (pos w x) + distance (pos w x) (pos w f) ≤ walkFrom w f (a :: r)
  | a, [], hx, hy => by
    have e : x = a := by simpa using hx
    have e2 : y = a := by simpa using hy
    subst e e2
    left
    show _ ≤ distance (pos w y) (pos w f)
    rw [dist_self]
    omega
  | a, b :: r, hx, hy => by
    have hw : walkFrom w f (a :: b :: r) = distance (pos w a) (pos w b) + walkFrom w f (b :: r) := rfl
    rcases List.mem_cons.mp hx with e | hx2
    · subst e
      have q := walk_one w f y x (b :: r) hy
      left
      rw [dist_self]
      omega
    · rcases List.mem_cons.mp hy with e | hy2
      · subst e
        have q := walk_one w f x y (b :: r) hx
        right
        rw [dist_self]
        omega
      · have t := dist_tri (pos w a) (pos w b) (pos w x)
        have t2 := dist_tri (pos w a) (pos w b) (pos w y)
        rcases walk_two w f x y b r hx2 hy2 with q | q
        · left
          omega
        · right
          omega
/-- a closed tour walks at least twice the way between any two of its machines -/
theorem walk_ge (w : Workshop) (t : List Nat) (x y : Nat) (hx : x ∈ t) (hy : y ∈ t) : 2 * distance (pos w x) (pos w y) ≤ walkTime w t := by
  cases t with
  | nil => cases hx
  | cons a r =>
    show _ ≤ walkFrom w a (a :: r)
    have t1 := dist_tri (pos w x) (pos w a) (pos w y)
    have t2 := dist_comm (pos w x) (pos w a)
    have t3 := dist_comm (pos w y) (pos w a)
    have t4 := dist_comm (pos w x) (pos w y)
    rcases walk_two w a x y a r hx hy with q | q <;> omega
/-! ### least and greatest position -/
def lo (w : Workshop) : List Nat → Nat
  | [] => 0
  | [i] => pos w i
  | i :: j :: r => min (pos w i) (lo w (j :: r))
def hi (w : Workshop) : List Nat → Nat
  | [] => 0
  | [i] => pos w i
  | i :: j :: r => max (pos w i) (hi w (j :: r))
theorem lo_le (w : Workshop) : ∀ (t : List Nat) (x : Nat), x ∈ t → lo w t ≤ pos w x
  | [], _, h => by cases h
  | [i], x, h => by
    have e : x = i := by simpa using h
    subst e
    exact Nat.le_refl _
  | i :: j :: r, x, h => by
    show min (pos w i) (lo w (j :: r)) ≤ _
    rcases List.mem_cons.mp h with e | h
    · subst e
      omega
    · have q := lo_le w (j :: r) x h
      omega
theorem hi_ge (w : Workshop) : ∀ (t : List Nat) (x : Nat), x ∈ t → pos w x ≤ hi w t
  | [], _, h => by cases h
  | [i], x, h => by
    have e : x = i := by simpa using h
    subst e
    exact Nat.le_refl _
  | i :: j :: r, x, h => by
    show _ ≤ max (pos w i) (hi w (j :: r))
    rcases List.mem_cons.mp h with e | h
    · subst e
      omega
    · have q := hi_ge w (j :: r) x h
      omega
theorem lo_is (w : Workshop) : ∀ (t : List Nat), t ≠ [] → ∃ x ∈ t, lo w t = pos w x
  | [], h => absurd rfl h
  | [i], _ => ⟨i, List.mem_cons_self .., rfl⟩
  | i :: j :: r, _ => by
    obtain ⟨x, hx, e⟩ := lo_is w (j :: r) (by simp)
    by_cases c : pos w i ≤ lo w (j :: r)
    · exact ⟨i, List.mem_cons_self .., Nat.min_eq_left c⟩
    · exact ⟨x, List.mem_cons_of_mem _ hx, by rw [← e]; exact Nat.min_eq_right (by omega)⟩
theorem hi_is (w : Workshop) : ∀ (t : List Nat), t ≠ [] → ∃ x ∈ t, hi w t = pos w x
  | [], h => absurd rfl h
  | [i], _ => ⟨i, List.mem_cons_self .., rfl⟩
  | i :: j :: r, _ => by
    obtain ⟨x, hx, e⟩ := hi_is w (j :: r) (by simp)
    by_cases c : pos w i ≤ hi w (j :: r)
    · exact ⟨x, List.mem_cons_of_mem _ hx, by rw [← e]; exact Nat.max_eq_right c⟩
    · exact ⟨i, List.mem_cons_self .., Nat.max_eq_left (by omega)⟩
theorem lo_perm (w : Workshop) {s t : List Nat} (p : s.Perm t) : lo w s = lo w t := by
  by_cases c : s = []
  · subst c
    rw [p.nil_eq]
  · have c2 : t ≠ [] := fun e => c (by subst e; exact p.eq_nil)
    obtain ⟨x, hx, e⟩ := lo_is w s c
    obtain ⟨y, hy, e2⟩ := lo_is w t c2
    have a := lo_le w s y (p.mem_iff.mpr hy)
    have b := lo_le w t x (p.mem_iff.mp hx)
    omega
theorem hi_perm (w : Workshop) {s t : List Nat} (p : s.Perm t) : hi w s = hi w t := by
  by_cases c : s = []
  · subst c
    rw [p.nil_eq]
  · have c2 : t ≠ [] := fun e => c (by subst e; exact p.eq_nil)
    obtain ⟨x, hx, e⟩ := hi_is w s c
    obtain ⟨y, hy, e2⟩ := hi_is w t c2
    have a := hi_ge w s y (p.mem_iff.mpr hy)
    have b := hi_ge w t x (p.mem_iff.mp hx)
    omega
/-- the closed form -/
def service (w : Workshop) (t : List Nat) : Nat := SrCommon.sum (t.map fun i => (machineAt w i).serviceTime)
def closed (w : Workshop) (t : List Nat) : Nat := max (service w t + 2 * (hi w t - lo w t)) (longestMachineCycle w t)
theorem foldl_add : ∀ (l : List Nat) (a : Nat), l.foldl (· + ·) a = a + l.sum
  | [], a => rfl
  | x :: r, a => by
    rw [List.foldl_cons, foldl_add r (a + x), List.sum_cons]
    omega
theorem sum_eq (l : List Nat) : SrCommon.sum l = l.sum := by
  unfold SrCommon.sum
  rw [foldl_add]
  omega
theorem service_perm (w : Workshop) {s t : List Nat} (p : s.Perm t) : service w s = service w t := by
  unfold service
  rw [sum_eq, sum_eq]
  exact (p.map _).sum_nat
theorem foldl_max : ∀ (l : List Nat) (a : Nat), l.foldl max a = max a (l.foldl max 0)
  | [], a => (Nat.max_eq_left (Nat.zero_le _)).symm
  | x :: r, a => by
    rw [List.foldl_cons, List.foldl_cons, foldl_max r (max a x), foldl_max r (max 0 x)]
    omega
theorem foldl_max_ge : ∀ (l : List Nat) (a x : Nat), x ∈ l → x ≤ l.foldl max a
  | [], _, _, h => by cases h
  | y :: r, a, x, h => by
    rw [List.foldl_cons]
    rcases List.mem_cons.mp h with e | h
    · subst e
      rw [foldl_max]
      omega
    · exact foldl_max_ge r _ x h
theorem foldl_max_le : ∀ (l : List Nat) (a b : Nat), a ≤ b → (∀ x ∈ l, x ≤ b) → l.foldl max a ≤ b
  | [], _, _, h, _ => h
  | y :: r, a, b, h, k => by
    rw [List.foldl_cons]
    have := k y (List.mem_cons_self ..)
    exact foldl_max_le r _ b (by omega) fun x hx => k x (List.mem_cons_of_mem _ hx)
theorem longest_perm (w : Workshop) {s t : List Nat} (p : s.Perm t) : longestMachineCycle w s = longestMachineCycle w t := by
  unfold longestMachineCycle
  refine Nat.le_antisymm (foldl_max_le _ _ _ (Nat.zero_le _) fun x hx => foldl_max_ge _ _ _ ?_) (foldl_max_le _ _ _ (Nat.zero_le _) fun x hx => foldl_max_ge _ _ _ ?_)
  · exact (p.map _).mem_iff.mp hx
  · exact (p.map _).mem_iff.mpr hx
theorem closed_perm (w : Workshop) {s t : List Nat} (p : s.Perm t) : closed w s = closed w t := by
  unfold closed
  rw [service_perm w p, hi_perm w p, lo_perm w p, longest_perm w p]
/-- no tour is shorter -/
theorem closed_le (w : Workshop) (t : List Nat) : closed w t ≤ cycleTime w t := by
  have h : 2 * (hi w t - lo w t) ≤ walkTime w t := by
    by_cases c : t = []
    · subst c
      exact Nat.zero_le _
    · obtain ⟨x, hx, e⟩ := lo_is w t c
      obtain ⟨y, hy, e2⟩ := hi_is w t c
      have q := walk_ge w t y x hy hx
      have a : hi w t - lo w t ≤ distance (pos w y) (pos w x) := by
        unfold distance
        omega
      omega
  unfold closed cycleTime busyTime
  show max (service w t + _) _ ≤ max (service w t + walkTime w t) _
  omega
/-! ### in order of position -/
theorem walk_sorted (w : Workshop) (f : Nat) : ∀ (a : Nat) (r : List Nat), (a :: r).Pairwise (fun i j => pos w i ≤ pos w j) →
    walkFrom w f (a :: r) + lo w (a :: r) = hi w (a :: r) + distance (hi w (a :: r)) (pos w f) ∧ lo w (a :: r) = pos w a
  | a, [], _ => by
    refine ⟨?_, rfl⟩
    show distance (pos w a) (pos w f) + pos w a = pos w a + distance (pos w a) (pos w f)
    omega
  | a, b :: r, h => by
    have h2 := List.pairwise_cons.mp h
    obtain ⟨q, q2⟩ := walk_sorted w f b r h2.2
    have c := h2.1 b (List.mem_cons_self ..)
    have g := hi_ge w (b :: r) b (List.mem_cons_self ..)
    have e1 : walkFrom w f (a :: b :: r) = distance (pos w a) (pos w b) + walkFrom w f (b :: r) := rfl
    have e2 : lo w (a :: b :: r) = min (pos w a) (lo w (b :: r)) := rfl
    have e3 : hi w (a :: b :: r) = max (pos w a) (hi w (b :: r)) := rfl
    have e4 : distance (pos w a) (pos w b) = pos w b - pos w a := by unfold distance; omega
    have e5 : hi w (a :: b :: r) = hi w (b :: r) := by omega
    refine ⟨?_, by omega⟩
    rw [e5]
    omega
theorem cycle_sorted (w : Workshop) (t : List Nat) (h : t.Pairwise (fun i j => pos w i ≤ pos w j)) : cycleTime w t = closed w t := by
  have k : walkTime w t = 2 * (hi w t - lo w t) := by
    cases t with
    | nil => rfl
    | cons a r =>
      obtain ⟨q, q2⟩ := walk_sorted w a a r h
      show walkFrom w a (a :: r) = _
      have g := hi_ge w (a :: r) a (List.mem_cons_self ..)
      have e : distance (hi w (a :: r)) (pos w a) = hi w (a :: r) - pos w a := by unfold distance; omega
      omega
  unfold closed cycleTime busyTime
  rw [k]
  rfl
/-- the wall order is a permutation in order of position -/
theorem insert_perm (w : Workshop) (i : Nat) : ∀ l : List Nat, (insertByPosition w i l).Perm (i :: l)
  | [] => .refl _
  | j :: r => by
    unfold insertByPosition
    split
    · exact .refl _
    · exact ((insert_perm w i r).cons j).trans (.swap i j r)
theorem insert_sorted (w : Workshop) (i : Nat) : ∀ l : List Nat, l.Pairwise (fun i j => pos w i ≤ pos w j) → (insertByPosition w i l).Pairwise (fun i j => pos w i ≤ pos w j)
  | [], _ => by
    unfold insertByPosition
    simp
  | j :: r, h => by
    have h2 := List.pairwise_cons.mp h
    unfold insertByPosition
    split
    · rename_i c
      refine List.pairwise_cons.mpr ⟨fun k hk => ?_, h⟩
      rcases List.mem_cons.mp hk with e | hk
      · subst e
        exact Nat.le_of_lt c
      · exact Nat.le_trans (Nat.le_of_lt c) (h2.1 k hk)
    · rename_i c
      refine List.pairwise_cons.mpr ⟨fun k hk => ?_, insert_sorted w i r h2.2⟩
      rcases List.mem_cons.mp ((insert_perm w i r).mem_iff.mp hk) with e | hk
      · subst e
        exact Nat.le_of_not_lt c
      · exact h2.1 k hk
theorem order_go (w : Workshop) : ∀ (l acc : List Nat), acc.Pairwise (fun i j => pos w i ≤ pos w j) →
    (l.foldl (fun s i => insertByPosition w i s) acc).Perm (l ++ acc) ∧ (l.foldl (fun s i => insertByPosition w i s) acc).Pairwise (fun i j => pos w i ≤ pos w j)
  | [], acc, h => ⟨.refl _, h⟩
  | i :: r, acc, h => by
    obtain ⟨p, q⟩ := order_go w r _ (insert_sorted w i acc h)
    refine ⟨?_, q⟩
    refine p.trans (((insert_perm w i acc).append_left r).trans ?_)
    exact List.perm_middle
theorem order_perm (w : Workshop) (s : List Nat) : (wallOrder w s).Perm s := by
  have h := (order_go w s [] .nil).1
  rw [List.append_nil] at h
  exact h
theorem order_sorted (w : Workshop) (s : List Nat) : (wallOrder w s).Pairwise (fun i j => pos w i ≤ pos w j) := (order_go w s [] .nil).2
theorem order_cycle (w : Workshop) (s : List Nat) : cycleTime w (wallOrder w s) = closed w s := (cycle_sorted w _ (order_sorted w s)).trans (closed_perm w (order_perm w s))
/-! ### all permutations -/
theorem perms_perm : ∀ (n : Nat) (l t : List Nat), l.Nodup → l.length ≤ n → t ∈ permutations n l → t.Perm l
  | 0, l, t, _, hn, h => by
    have e : l = [] := List.length_eq_zero_iff.mp (by omega)
    subst e
    have e2 : t = [] := by simpa [permutations] using h
    subst e2
    exact .refl _
  | n + 1, l, t, nd, hn, h => by
    unfold permutations at h
    split at h
    · rename_i e
      subst e
      have e2 : t = [] := by simpa using h
      subst e2
      exact .refl _
    · obtain ⟨i, hi, h⟩ := List.mem_flatMap.mp h
      obtain ⟨r, hr, e⟩ := List.mem_map.mp h
      subst e
      have e3 : (l.filter fun j => j != i) = l.erase i := (nd.erase_eq_filter i).symm
      rw [e3] at hr
      have q := perms_perm n (l.erase i) r (nd.erase i) (by rw [List.length_erase_of_mem hi]; omega) hr
      exact (q.cons i).trans (List.perm_cons_erase hi).symm
theorem perm_perms : ∀ (n : Nat) (l t : List Nat), l.Nodup → l.length ≤ n → t.Perm l → t ∈ permutations n l
  | 0, l, t, _, hn, p => by
    have e : l = [] := List.length_eq_zero_iff.mp (by omega)
    subst e
    have e2 : t = [] := p.eq_nil
    subst e2
    exact List.mem_cons_self ..
  | n + 1, l, t, nd, hn, p => by
    unfold permutations
    split
    · rename_i e
      subst e
      have e2 : t = [] := p.eq_nil
      subst e2
      exact List.mem_cons_self ..
    · cases t with
      | nil =>
        rename_i c
        exact absurd p.nil_eq.symm c
      | cons i r =>
        have hi : i ∈ l := p.mem_iff.mp (List.mem_cons_self ..)
        refine List.mem_flatMap.mpr ⟨i, hi, List.mem_map.mpr ⟨r, ?_, rfl⟩⟩
        rw [← nd.erase_eq_filter i]
        refine perm_perms n (l.erase i) r (nd.erase i) (by rw [List.length_erase_of_mem hi]; omega) ?_
        exact (List.perm_cons i).mp (p.trans (List.perm_cons_erase hi))
/-! ### the first of the best -/
def pick (w : Workshop) (best : Option (List Nat × Nat)) (tour : List Nat) : Option (List Nat × Nat) :=
  match best with
  | none => some (tour, cycleTime w tour)
  | some b => if cycleTime w tour < b.2 then some (tour, cycleTime w tour) else some b
theorem pick_stays (w : Workshop) (b : List Nat × Nat) : ∀ l : List (List Nat), (∀ t ∈ l, b.2 ≤ cycleTime w t) → l.foldl (pick w) (some b) = some b
  | [], _ => rfl
  | t :: r, h => by
    have c : ¬ cycleTime w t < b.2 := Nat.not_lt.mpr (h t (List.mem_cons_self ..))
    rw [List.foldl_cons]
    have e : pick w (some b) t = some b := if_neg c
    rw [e]
    exact pick_stays w b r fun x hx => h x (List.mem_cons_of_mem _ hx)
/-- what is picked out of a list is the first with the least time m -/
theorem pick_first (w : Workshop) (m : Nat) (t : List Nat) (ht : cycleTime w t = m) : ∀ (l1 l2 : List (List Nat)) (b : Option (List Nat × Nat)),
    (∀ x ∈ l1, m < cycleTime w x) → (∀ x ∈ l2, m ≤ cycleTime w x) → (∀ y, b = some y → m < y.2) → (l1 ++ t :: l2).foldl (pick w) b = some (t, m)
  | [], l2, b, _, h2, hb => by
    rw [List.nil_append, List.foldl_cons]
    have e : pick w b t = some (t, m) := by
      unfold pick
      cases b with
      | none => rw [ht]
      | some y =>
        have := hb y rfl
        show (if cycleTime w t < y.2 then _ else _) = _
        rw [ht, if_pos this]
    rw [e]
    exact pick_stays w (t, m) l2 h2
  | x :: r, l2, b, h1, h2, hb => by
    rw [List.cons_append, List.foldl_cons]
    refine pick_first w m t ht r l2 _ (fun y hy => h1 y (List.mem_cons_of_mem _ hy)) h2 fun y hy => ?_
    have hx := h1 x (List.mem_cons_self ..)
    unfold pick at hy
    cases b with
    | none =>
      have e := Option.some.inj hy
      rw [← e]
      exact hx
    | some z =>
      have hy : (if cycleTime w x < z.2 then some (x, cycleTime w x) else some z) = some y := hy
      split at hy
      · rw [← Option.some.inj hy]
        exact hx
      · rw [← Option.some.inj hy]
        exact hb z rfl
theorem bestTour_eq (w : Workshop) (s : List Nat) : bestTour w s = (((permutations s.length s).foldl (pick w) none).map (fun b => b.1)).getD [] := rfl
/-- the first permutation that attains the closed form is the best tour -/
theorem best_first (w : Workshop) (s t : List Nat) (nd : s.Nodup) (l1 l2 : List (List Nat)) (e : permutations s.length s = l1 ++ t :: l2)
    (h1 : ∀ x ∈ l1, closed w s < cycleTime w x) (ht : cycleTime w t ≤ closed w s) : bestTour w s = t ∧ minCycleTime w s = closed w s := by
  have hall : ∀ x ∈ permutations s.length s, closed w s ≤ cycleTime w x := fun x hx => by
    have p := perms_perm _ s x nd (Nat.le_refl _) hx
    rw [← closed_perm w p]
    exact closed_le w x
  have ht2 : cycleTime w t = closed w s := Nat.le_antisymm ht (hall t (by rw [e]; simp))
  have k : bestTour w s = t := by
    rw [bestTour_eq, e, pick_first w (closed w s) t ht2 l1 l2 none h1 (fun x hx => hall x (by rw [e]; simp [hx])) (fun y hy => by cases hy)]
    rfl
  refine ⟨k, ?_⟩
  unfold minCycleTime
  rw [k, ht2]
theorem split_first {α : Type} (p : α → Bool) : ∀ (l : List α) (x : α), x ∈ l → p x = true → ∃ l1 t l2, l = l1 ++ t :: l2 ∧ (∀ y ∈ l1, p y = false) ∧ p t = true
  | [], x, h, _ => by cases h
  | a :: r, x, h, hp => by
    cases c : p a with
    | true => exact ⟨[], a, r, rfl, (fun y hy => by cases hy), c⟩
    | false =>
      rcases List.mem_cons.mp h with e | h
      · subst e
        rw [c] at hp
        cases hp
      · obtain ⟨l1, t, l2, e, q1, q2⟩ := split_first p r x h hp
        refine ⟨a :: l1, t, l2, by rw [e]; rfl, fun y hy => ?_, q2⟩
        rcases List.mem_cons.mp hy with e | hy
        · subst e
          exact c
        · exact q1 y hy
/-- the least cycle time of a set is the closed form -/
theorem min_closed (w : Workshop) (s : List Nat) (nd : s.Nodup) : minCycleTime w s = closed w s := by
  obtain ⟨l1, t, l2, e, q1, q2⟩ := split_first (fun t => decide (cycleTime w t ≤ closed w s)) (permutations s.length s) (wallOrder w s)
    (perm_perms _ s _ nd (Nat.le_refl _) (order_perm w s)) (decide_eq_true (Nat.le_of_eq (order_cycle w s)))
  exact (best_first w s t nd l1 l2 e (fun x hx => by have := of_decide_eq_false (q1 x hx); omega) (of_decide_eq_true q2)).2
end Tw

/-! # The next permutation: for each of the 64 subsets of six, the specification's list of permutations is gone through one by one -/
namespace Tw
open Sr120 SrCommon
/-- the place of the turn, looked for downwards -/
def turnAt (o : List Nat) : Nat → Nat
  | 0 => 0
  | k + 1 => if o.getD (k + 1) 0 > o.getD (k + 2) 0 then turnAt o k else k + 1
def ins (x : Nat) : List Nat → List Nat
  | [] => [x]
  | y :: r => if x ≤ y then x :: y :: r else y :: ins x r
def isort : List Nat → List Nat
  | [] => []
  | x :: r => ins x (isort r)
def least : List Nat → Nat
  | [] => 0
  | [x] => x
  | x :: y :: r => min x (least (y :: r))
def larger (o : List Nat) (t : Nat) : Nat := least ((o.drop (t + 1)).filter fun i => decide (o.getD t 0 < i))
def nextAt (o : List Nat) (t : Nat) : List Nat := o.take t ++ [larger o t] ++ isort ((o.drop t).filter fun i => i != larger o t)
def next (o : List Nat) : List Nat := nextAt o (turnAt o (o.length - 2))
/-- what the text asks on the way: the turn is a turn, there is a larger one behind it -/
def turns (o : List Nat) : Bool := let t := turnAt o (o.length - 2); decide (t + 1 < o.length) && decide (o.getD t 0 < o.getD (t + 1) 0)
def chain : List (List Nat) → Bool
  | a :: b :: r => turns a && (next a == b) && chain (b :: r)
  | _ => true
def set6 (m : Nat) : List Nat := maskMembers 6 m
theorem all_chain : (List.range 64).all (fun m => chain (permutations (set6 m).length (set6 m)) && ((permutations (set6 m).length (set6 m)).head? == some (set6 m))) = true := by decide +kernel
end Tw

namespace Tw
open Sr120 SrCommon
theorem chain_step : ∀ (l1 : List (List Nat)) (t u : List Nat) (l2 : List (List Nat)), chain (l1 ++ t :: u :: l2) = true → turns t = true ∧ next t = u
  | [], t, u, l2, h => by
    have h : (turns t && (next t == u) && chain (u :: l2)) = true := h
    rw [Bool.and_eq_true, Bool.and_eq_true] at h
    exact ⟨h.1.1, eq_of_beq h.1.2⟩
  | [a], t, u, l2, h => by
    have h : (turns a && (next a == t) && chain (t :: u :: l2)) = true := h
    rw [Bool.and_eq_true] at h
    exact chain_step [] t u l2 h.2
  | a :: b :: r, t, u, l2, h => by
    have h : (turns a && (next a == b) && chain (b :: (r ++ t :: u :: l2))) = true := h
    rw [Bool.and_eq_true] at h
    exact chain_step (b :: r) t u l2 h.2
/-- a subset of the six: what is asked of the members -/
def Mem (s : List Nat) : Prop := ∃ m, m < 64 ∧ s = set6 m
theorem Mem.chain {s : List Nat} (h : Mem s) : chain (permutations s.length s) = true := by
  obtain ⟨m, hm, e⟩ := h
  subst e
  have q := List.all_eq_true.mp all_chain m (List.mem_range.mpr hm)
  rw [Bool.and_eq_true] at q
  exact q.1
theorem Mem.head {s : List Nat} (h : Mem s) : ∃ r, permutations s.length s = s :: r := by
  obtain ⟨m, hm, e⟩ := h
  subst e
  have q := List.all_eq_true.mp all_chain m (List.mem_range.mpr hm)
  rw [Bool.and_eq_true] at q
  have k := eq_of_beq q.2
  cases e : permutations (set6 m).length (set6 m) with
  | nil =>
    rw [e] at k
    cases k
  | cons a r =>
    rw [e] at k
    have k : some a = some (set6 m) := k
    cases k
    exact ⟨r, rfl⟩
theorem Mem.nodup {s : List Nat} (h : Mem s) : s.Nodup := by
  obtain ⟨m, hm, e⟩ := h
  subst e
  exact List.Nodup.sublist List.filter_sublist List.nodup_range
theorem Mem.lt {s : List Nat} (h : Mem s) : ∀ i ∈ s, i < 6 := by
  obtain ⟨m, hm, e⟩ := h
  subst e
  intro i hi
  exact List.mem_range.mp (List.mem_filter.mp hi).1
theorem Mem.sorted {s : List Nat} (h : Mem s) : s.Pairwise (· < ·) := by
  obtain ⟨m, hm, e⟩ := h
  subst e
  exact List.Pairwise.sublist List.filter_sublist List.pairwise_lt_range
theorem mem_range {n : Nat} (h : n ≤ 6) : Mem (List.range n) := by
  refine ⟨2 ^ n - 1, ?_, ?_⟩
  · have : 2 ^ n ≤ 2 ^ 6 := Nat.pow_le_pow_right (by decide) h
    omega
  · have k : (List.range 7).all (fun n => List.range n == set6 (2 ^ n - 1)) = true := by decide +kernel
    exact eq_of_beq (List.all_eq_true.mp k n (List.mem_range.mpr (by omega)))
theorem mask_six {n m : Nat} (h : n ≤ 6) (hm : m < 2 ^ n) : maskMembers n m = set6 m ∧ m < 64 := by
  have h2 : 2 ^ n ≤ 2 ^ 6 := Nat.pow_le_pow_right (by decide) h
  have k : (List.range 7).all (fun n => (List.range 64).all fun m => decide (2 ^ n ≤ m) || (maskMembers n m == set6 m)) = true := by decide +kernel
  have q := List.all_eq_true.mp (List.all_eq_true.mp k n (List.mem_range.mpr (by omega))) m (List.mem_range.mpr (by omega))
  rw [Bool.or_eq_true] at q
  refine ⟨?_, by omega⟩
  rcases q with q | q
  · exact absurd (of_decide_eq_true q) (by omega)
  · exact eq_of_beq q
theorem mem_mask {n m : Nat} (h : n ≤ 6) (hm : m < 2 ^ n) : Mem (maskMembers n m) := ⟨m, (mask_six h hm).2, (mask_six h hm).1⟩
/-- where the walk through the permutations stands: t now, all ahead of it too long -/
structure Stands (w : Workshop) (s t : List Nat) (l2 : List (List Nat)) : Prop where
  here : ∃ l1, permutations s.length s = l1 ++ t :: l2 ∧ ∀ x ∈ l1, closed w s < cycleTime w x
theorem Stands.start {w : Workshop} {s : List Nat} (h : Mem s) : ∃ l2, Stands w s s l2 := by
  obtain ⟨r, e⟩ := h.head
  exact ⟨r, ⟨[], e, fun x hx => by cases hx⟩⟩
theorem Stands.perm {w : Workshop} {s t : List Nat} {l2 : List (List Nat)} (k : Stands w s t l2) (h : Mem s) : t.Perm s := by
  obtain ⟨l1, e, _⟩ := k.here
  exact perms_perm _ s t h.nodup (Nat.le_refl _) (by rw [e]; simp)
theorem Stands.step {w : Workshop} {s t : List Nat} {l2 : List (List Nat)} (k : Stands w s t l2) (h : Mem s) (c : closed w s < cycleTime w t) :
    turns t = true ∧ ∃ l3, l2 = next t :: l3 ∧ Stands w s (next t) l3 := by
  obtain ⟨l1, e, q⟩ := k.here
  cases l2 with
  | nil =>
    have m := perm_perms _ s _ h.nodup (Nat.le_refl _) (order_perm w s)
    rw [e] at m
    have o := order_cycle w s
    rcases List.mem_append.mp m with m | m
    · have := q _ m
      omega
    · have e2 : wallOrder w s = t := by simpa using m
      rw [e2] at o
      omega
  | cons u l3 =>
    have g := h.chain
    rw [e] at g
    obtain ⟨g1, g2⟩ := chain_step l1 t u l3 g
    subst g2
    refine ⟨g1, l3, rfl, ⟨l1 ++ [t], by rw [e]; simp, fun x hx => ?_⟩⟩
    rcases List.mem_append.mp hx with hx | hx
    · exact q x hx
    · have e2 : x = t := by simpa using hx
      subst e2
      exact c
theorem Stands.done {w : Workshop} {s t : List Nat} {l2 : List (List Nat)} (k : Stands w s t l2) (h : Mem s) (c : cycleTime w t ≤ closed w s) :
    bestTour w s = t ∧ minCycleTime w s = closed w s := by
  obtain ⟨l1, e, q⟩ := k.here
  exact best_first w s t h.nodup l1 l2 e q c
end Tw

namespace Tw
open Sr120 SrCommon
/-! ### the walking time, place by place -/
def wsum (w : Workshop) (t : List Nat) (k : Nat) : Nat := ((List.range k).map fun j => distance (pos w (t.getD j 0)) (pos w (t.getD ((j + 1) % t.length) 0))).sum
theorem wsum_zero (w : Workshop) (t : List Nat) : wsum w t 0 = 0 := rfl
theorem wsum_succ (w : Workshop) (t : List Nat) (k : Nat) : wsum w t (k + 1) = wsum w t k + distance (pos w (t.getD k 0)) (pos w (t.getD ((k + 1) % t.length) 0)) := by
  unfold wsum
  rw [List.range_succ, List.map_append, List.sum_append]
  simp
theorem walkFrom_sum (w : Workshop) (f : Nat) : ∀ l : List Nat, walkFrom w f l = ((List.range l.length).map fun j => distance (pos w (l.getD j 0)) (pos w ((l ++ [f]).getD (j + 1) 0))).sum
  | [] => rfl
  | [i] => by
    show distance (pos w i) (pos w f) = _
    simp [List.range_succ]
  | i :: j :: r => by
    show distance (pos w i) (pos w j) + walkFrom w f (j :: r) = _
    rw [walkFrom_sum w f (j :: r)]
    rw [show (i :: j :: r).length = (j :: r).length + 1 from rfl, List.range_succ_eq_map, List.map_cons, List.sum_cons, List.map_map]
    rfl
theorem wsum_full (w : Workshop) (t : List Nat) : wsum w t t.length = walkTime w t := by
  cases t with
  | nil => rfl
  | cons a r =>
    show _ = walkFrom w a (a :: r)
    rw [walkFrom_sum]
    unfold wsum
    refine congrArg List.sum (List.map_congr_left fun j hj => ?_)
    have hj := List.mem_range.mp hj
    have e : (a :: r).getD ((j + 1) % (a :: r).length) 0 = (a :: r ++ [a]).getD (j + 1) 0 := by
      by_cases c : j + 1 < (a :: r).length
      · rw [Nat.mod_eq_of_lt c]
        simp only [List.getD_eq_getElem?_getD]
        rw [List.getElem?_append_left c]
      · have e1 : j + 1 = (a :: r).length := by omega
        rw [e1, Nat.mod_self]
        simp only [List.getD_eq_getElem?_getD]
        rw [List.getElem?_append_right (Nat.le_refl _)]
        simp
    rw [e]
theorem dist_abs (p q : Nat) : (if (p : Int) - q < 0 then -((p : Int) - q) else (p : Int) - q) = (distance p q : Int) := by
  unfold distance
  split <;> omega
theorem machineAt_get {w : Workshop} {i : Nat} {m : Machine} (h : w[i]? = some m) : machineAt w i = m := by
  unfold machineAt
  rw [List.getD_eq_getElem?_getD, h]
  rfl
end Tw
namespace Tw
theorem fmod_nat (k n : Nat) : Int.fmod ((k : Int) + 1) (n : Int) = (((k + 1) % n : Nat) : Int) := by
  rw [Int.fmod_eq_emod_of_nonneg _ (Int.natCast_nonneg n)]
  exact (Int.natCast_emod (k + 1) n).symm
theorem getD_mem {t : List Nat} {k : Nat} (h : k < t.length) : t.getD k 0 ∈ t := by
  rw [List.getD_eq_getElem?_getD, List.getElem?_eq_getElem h]
  exact List.getElem_mem h
end Tw
namespace Tw
open Sr120
theorem wsum_add (w : Workshop) (t : List Nat) (k : Nat) : ((wsum w t k : Nat) : Int) + (if ((machineAt w (t.getD k 0)).position : Int) - ((machineAt w (t.getD ((k + 1) % t.length) 0)).position : Int) < 0 then
    -(((machineAt w (t.getD k 0)).position : Int) - ((machineAt w (t.getD ((k + 1) % t.length) 0)).position : Int)) else ((machineAt w (t.getD k 0)).position : Int) - ((machineAt w (t.getD ((k + 1) % t.length) 0)).position : Int)) = ((wsum w t (k + 1) : Nat) : Int) := by
  rw [dist_abs, wsum_succ]
  exact (Int.natCast_add _ _).symm
end Tw

/-! # One list of calls, cut call by call -/
namespace Tw
theorem row_parts {r : List Int} {x t : List Int} (h : PyFlat.row r = some (x, t)) : ∃ (n : Nat) (r' : List Int), r = (n : Int) :: r' ∧ n ≤ r'.length ∧ x = r'.take n ∧ t = r'.drop n := by
  cases r with
  | nil => cases h
  | cons n r' =>
    by_cases c : 0 ≤ n ∧ n.toNat ≤ r'.length
    · have e : PyFlat.row (n :: r') = some (r'.take n.toNat, r'.drop n.toNat) := if_pos c
      rw [e] at h
      cases h
      refine ⟨n.toNat, r', ?_, c.2, rfl, rfl⟩
      rw [Int.toNat_of_nonneg c.1]
    · have e : PyFlat.row (n :: r') = none := if_neg c
      rw [e] at h
      cases h
theorem rows_zero {r : List Int} {xs : List (List Int)} {t : List Int} (h : PyFlat.rows 0 r = some (xs, t)) : xs = [] ∧ t = r := by
  cases h
  exact ⟨rfl, rfl⟩
theorem rows_succ {k : Nat} {r : List Int} {xs : List (List Int)} {t : List Int} (h : PyFlat.rows (k + 1) r = some (xs, t)) :
    ∃ (n : Nat) (r' : List Int) (ys : List (List Int)), r = (n : Int) :: r' ∧ n ≤ r'.length ∧ xs = r'.take n :: ys ∧ PyFlat.rows k (r'.drop n) = some (ys, t) := by
  unfold PyFlat.rows at h
  cases e : PyFlat.row r with
  | none => rw [e] at h; cases h
  | some p =>
    obtain ⟨x, s⟩ := p
    rw [e] at h
    dsimp only at h
    cases e2 : PyFlat.rows k s with
    | none => rw [e2] at h; cases h
    | some p2 =>
      obtain ⟨ys, t2⟩ := p2
      rw [e2] at h
      cases h
      obtain ⟨n, r', h1, h2, rfl, rfl⟩ := row_parts e
      exact ⟨n, r', ys, h1, h2, rfl, e2⟩
theorem rows_len {k : Nat} : ∀ {r : List Int} {xs : List (List Int)} {t : List Int}, PyFlat.rows k r = some (xs, t) → xs.length = k := by
  induction k with
  | zero => intro r xs t h; rw [(rows_zero h).1]; rfl
  | succ k ih =>
    intro r xs t h
    obtain ⟨n, r', ys, _, _, rfl, h2⟩ := rows_succ h
    rw [List.length_cons, ih h2]
theorem calls_nil {shape : Int → Option (Nat × Nat)} {f : Nat} : PyFlat.calls shape f [] = some [] := by
  cases f <;> rfl
theorem calls_cons {shape : Int → Option (Nat × Nat)} {f : Nat} {p : Int} {r : List Int} {cs : List (List (List Int))} (h : PyFlat.calls shape f (p :: r) = some cs) :
    ∃ (g n k : Nat) (xs : List (List Int)) (t : List Int) (ds : List (List (List Int))), shape p = some (n, k) ∧ n ≤ r.length ∧ PyFlat.rows k (r.drop n) = some (xs, t) ∧
      cs = ((p :: r.take n) :: xs) :: ds ∧ PyFlat.calls shape g t = some ds := by
  cases f with
  | zero => cases h
  | succ f =>
    unfold PyFlat.calls at h
    cases e : PyFlat.call shape (p :: r) with
    | none => rw [e] at h; cases h
    | some q =>
      obtain ⟨c, t⟩ := q
      rw [e] at h
      dsimp only at h
      cases e2 : PyFlat.calls shape f t with
      | none => rw [e2] at h; cases h
      | some ds =>
        rw [e2] at h
        cases h
        unfold PyFlat.call at e
        dsimp only at e
        cases e3 : shape p with
        | none => rw [e3] at e; cases e
        | some nk =>
          obtain ⟨n, k⟩ := nk
          rw [e3] at e
          dsimp only at e
          split at e
          · cases e
          · rename_i c1
            cases e4 : PyFlat.rows k (r.drop n) with
            | none => rw [e4] at e; cases e
            | some q2 =>
              obtain ⟨xs, t2⟩ := q2
              rw [e4] at e
              cases e
              exact ⟨f, n, k, xs, t, ds, rfl, by omega, e4, rfl, e2⟩
theorem whole_eq (c : List (List Int)) : PySr120.whole c = c := by
  unfold PySr120.whole
  split <;> rfl
theorem whole_map (cs : List (List (List Int))) : cs.map PySr120.whole = cs := by
  rw [show PySr120.whole = id from funext whole_eq, List.map_id]
theorem drop_next {α : Type} {l r : List α} {x : α} {q : Nat} (h : l.drop q = x :: r) : q < l.length ∧ l[q]? = some x ∧ l.drop (q + 1) = r := by
  have hq : q < l.length := by
    rcases Nat.lt_or_ge q l.length with c | c
    · exact c
    · rw [List.drop_eq_nil_of_le c] at h
      cases h
  rw [List.drop_eq_getElem_cons hq] at h
  cases h
  exact ⟨hq, List.getElem?_eq_getElem hq, rfl⟩
theorem drop_more {α : Type} {l r : List α} {q : Nat} (h : l.drop q = r) (n : Nat) : l.drop (q + n) = r.drop n := by
  rw [← h, List.drop_drop]
theorem told_append (a b : List (List Int)) : PyFlat.told (a ++ b) = PyFlat.told a ++ PyFlat.told b := List.flatMap_append
end Tw

/-! # Sorting and the least, uniquely -/
namespace Tw
theorem least_mem : ∀ (l : List Nat), l ≠ [] → least l ∈ l
  | [x], _ => List.mem_singleton.mpr rfl
  | x :: y :: r, _ => by
    show min x (least (y :: r)) ∈ _
    have ih := least_mem (y :: r) (fun e => by cases e)
    rcases Nat.le_total x (least (y :: r)) with c | c
    · rw [Nat.min_eq_left c]
      exact List.mem_cons_self
    · rw [Nat.min_eq_right c]
      exact List.mem_cons_of_mem _ ih
theorem least_le : ∀ (l : List Nat) (z : Nat), z ∈ l → least l ≤ z
  | [x], z, h => by
    rw [List.mem_singleton.mp h]
    exact Nat.le_refl _
  | x :: y :: r, z, h => by
    show min x (least (y :: r)) ≤ z
    rcases List.mem_cons.mp h with e | h
    · omega
    · have := least_le (y :: r) z h
      omega
theorem least_int {l : List Nat} {m : Int} (hm : m ∈ l.map fun (j : Nat) => (j : Int)) (hle : ∀ y, y ∈ (l.map fun (j : Nat) => (j : Int)) → m ≤ y) : m = (least l : Nat) := by
  obtain ⟨j, hj, rfl⟩ := List.mem_map.mp hm
  have h0 : l ≠ [] := fun e => by
    subst e
    cases hj
  have h1 := least_le l j hj
  have h2 := hle _ (List.mem_map.mpr ⟨_, least_mem l h0, rfl⟩)
  omega
theorem ins_perm (x : Nat) : ∀ l, (ins x l).Perm (x :: l)
  | [] => .refl _
  | y :: r => by
    show (if x ≤ y then x :: y :: r else y :: ins x r).Perm _
    split
    · exact .refl _
    · exact ((ins_perm x r).cons y).trans (.swap ..)
theorem isort_perm : ∀ l, (isort l).Perm l
  | [] => .refl _
  | x :: r => (ins_perm x _).trans ((isort_perm r).cons x)
theorem ins_sorted (x : Nat) : ∀ l, l.Pairwise (· ≤ ·) → (ins x l).Pairwise (· ≤ ·)
  | [], _ => List.pairwise_singleton _ _
  | y :: r, h => by
    show (if x ≤ y then x :: y :: r else y :: ins x r).Pairwise _
    split
    · rename_i c
      refine List.pairwise_cons.mpr ⟨fun z hz => ?_, h⟩
      rcases List.mem_cons.mp hz with e | hz
      · omega
      · exact Nat.le_trans c ((List.pairwise_cons.mp h).1 z hz)
    · rename_i c
      refine List.pairwise_cons.mpr ⟨fun z hz => ?_, ins_sorted x r (List.pairwise_cons.mp h).2⟩
      rcases List.mem_cons.mp ((ins_perm x r).mem_iff.mp hz) with e | hz
      · omega
      · exact (List.pairwise_cons.mp h).1 z hz
theorem isort_sorted : ∀ l, (isort l).Pairwise (· ≤ ·)
  | [] => .nil
  | x :: r => ins_sorted x _ (isort_sorted r)
theorem ints_sorted {l : List Nat} (h : l.Pairwise (· ≤ ·)) : (l.map fun (j : Nat) => (j : Int)).Pairwise (· ≤ ·) := List.pairwise_map.mpr (h.imp fun q => by omega)
theorem sorted_one {l s : List Nat} {ns : List Int} (p : ns.Perm (l.map fun (j : Nat) => (j : Int))) (h : ns.Pairwise (· ≤ ·)) (ps : s.Perm l) (hs : s.Pairwise (· ≤ ·)) : ns = s.map fun (j : Nat) => (j : Int) :=
  List.Perm.eq_of_pairwise (le := (· ≤ ·)) (fun _ _ _ _ h1 h2 => Int.le_antisymm h1 h2) h (ints_sorted hs) (p.trans (ps.map _).symm)
theorem sorted_isort {l : List Nat} {ns : List Int} (p : ns.Perm (l.map fun (j : Nat) => (j : Int))) (h : ns.Pairwise (· ≤ ·)) : ns = (isort l).map fun (j : Nat) => (j : Int) :=
  sorted_one p h (isort_perm l) (isort_sorted l)
theorem turns_parts {o : List Nat} (h : turns o = true) : turnAt o (o.length - 2) + 1 < o.length ∧ o.getD (turnAt o (o.length - 2)) 0 < o.getD (turnAt o (o.length - 2) + 1) 0 := by
  have h : (decide (turnAt o (o.length - 2) + 1 < o.length) && decide (o.getD (turnAt o (o.length - 2)) 0 < o.getD (turnAt o (o.length - 2) + 1) 0)) = true := h
  rw [Bool.and_eq_true] at h
  exact ⟨of_decide_eq_true h.1, of_decide_eq_true h.2⟩
theorem larger_some {o : List Nat} {t : Nat} (h1 : t + 1 < o.length) (h2 : o.getD t 0 < o.getD (t + 1) 0) : ((o.drop (t + 1)).filter fun i => decide (o.getD t 0 < i)) ≠ [] := by
  intro e
  have m : o.getD (t + 1) 0 ∈ o.drop (t + 1) := by
    rw [List.getD_eq_getElem?_getD, List.getElem?_eq_getElem h1, List.drop_eq_getElem_cons h1]
    exact List.mem_cons_self
  have k := (List.mem_filter (p := fun i => decide (o.getD t 0 < i))).mpr ⟨m, decide_eq_true h2⟩
  rw [e] at k
  cases k
end Tw

/-! # What may be asked, and how a call goes on -/
namespace Tw
open Sr120 SrCommon
theorem starts_len (w : Workshop) : ∀ (t : List Nat) (s : Nat), (startTimesFrom w t s).length = t.length
  | [], _ => rfl
  | [_], _ => rfl
  | i :: j :: r, s => by
    show (startTimesFrom w (j :: r) _).length + 1 = _
    rw [starts_len w (j :: r)]
    rfl
theorem mask_len (n m : Nat) : (maskMembers n m).length ≤ n := by
  have k : ((List.range n).filter fun i => m / 2 ^ i % 2 == 1).length ≤ (List.range n).length := List.length_filter_le ..
  rw [List.length_range] at k
  exact k
theorem mask_nodup (n m : Nat) : (maskMembers n m).Nodup := List.Nodup.sublist List.filter_sublist List.nodup_range
theorem group_len (w : Workshop) (lim : Nat) : (largestGroup w lim).length ≤ w.length := by
  unfold largestGroup
  have go : ∀ (l : List Nat) (b : List Nat), b.length ≤ w.length → (l.foldl (fun best x => let group := maskMembers w.length x
      if best.length < group.length ∧ cycleTime w (wallOrder w group) ≤ lim then group else best) b).length ≤ w.length := by
    intro l
    induction l with
    | nil => intro b hb; exact hb
    | cons x r ih =>
      intro b hb
      rw [List.foldl_cons]
      refine ih _ ?_
      dsimp only
      split
      · exact mask_len _ _
      · exact hb
  exact go _ [] (Nat.zero_le _)
theorem best_perm2 (w : Workshop) (s : List Nat) (nd : s.Nodup) : (bestTour w s).Perm s := by
  obtain ⟨l1, t, l2, e, q1, q2⟩ := split_first (fun t => decide (cycleTime w t ≤ closed w s)) (permutations s.length s) (wallOrder w s)
    (perm_perms _ s _ nd (Nat.le_refl _) (order_perm w s)) (decide_eq_true (Nat.le_of_eq (order_cycle w s)))
  rw [(best_first w s t nd l1 l2 e (fun x hx => by have := of_decide_eq_false (q1 x hx); omega) (of_decide_eq_true q2)).1]
  exact perms_perm _ s t nd (Nat.le_refl _) (by rw [e]; simp)
theorem nti_len (l : List Nat) : (natsToInts l).length = l.length := List.length_map ..
theorem list3_len (f g h : Machine → Int) : ∀ w : Workshop, (w.flatMap fun m => [f m, g m, h m]).length = 3 * w.length
  | [] => rfl
  | m :: r => by
    rw [List.flatMap_cons, List.length_append, list3_len f g h r]
    show 3 + 3 * r.length = 3 * (r.length + 1)
    omega
/-- no answer is long -/
theorem out_len (w : Workshop) (hw : w.length ≤ 6) (call : Sr120.Call) (hc : ∀ t, call = .startTimes t → t.length ≤ 70) : (perform w call).2.values.length ≤ 78 := by
  have z : ∀ c : Int, (Result.ofCode c).values.length ≤ 78 := fun c => Nat.zero_le _
  have all : (allMachines w).length = w.length := List.length_range
  cases call with
  | create => exact z _
  | addMachine x y t => unfold perform; dsimp only; split; exact z _; split; exact z _; exact z _
  | removeMachine i => unfold perform; dsimp only; split; exact z _; exact z _
  | setPosition i x => unfold perform; dsimp only; split; exact z _; split; exact z _; exact z _
  | setRunTime i x => unfold perform; dsimp only; split; exact z _; split; exact z _; exact z _
  | setServiceTime i x => unfold perform; dsimp only; split; exact z _; split; exact z _; exact z _
  | minCycleTime => exact z _
  | bestTour =>
    show (natsToInts (Sr120.bestTour w (allMachines w))).length ≤ 78
    rw [nti_len, (best_perm2 w (allMachines w) List.nodup_range).length_eq, all]
    omega
  | cycleTime t => unfold perform; dsimp only; split; exact z _; exact (by decide : 2 ≤ 78)
  | wallOrder =>
    show (natsToInts (Sr120.wallOrder w (allMachines w))).length ≤ 78
    rw [nti_len, (order_perm w _).length_eq, all]
    omega
  | startTimes t =>
    unfold perform; dsimp only; split; exact z _
    show (natsToInts (Sr120.startTimes w (intsToNats t))).length ≤ 78
    have k := hc t rfl
    have e : (intsToNats t).length = t.length := List.length_map ..
    rw [nti_len]
    unfold Sr120.startTimes
    rw [starts_len, e]
    omega
  | idleTime i => unfold perform; dsimp only; split; exact z _; exact z _
  | utilization => unfold perform; dsimp only; split; exact z _; exact (by decide : 2 ≤ 78)
  | largestGroup lim =>
    unfold perform; dsimp only; split; exact z _
    show (natsToInts (Sr120.largestGroup w lim.toNat)).length ≤ 78
    have := group_len w lim.toNat
    rw [nti_len]
    omega
  | bestTourOf m =>
    unfold perform; dsimp only; split; exact z _
    show (natsToInts (Sr120.bestTour w (maskMembers w.length m.toNat))).length ≤ 78
    have := mask_len w.length m.toNat
    rw [nti_len, (best_perm2 w _ (mask_nodup _ _)).length_eq]
    omega
  | checkSchedule c t s => unfold perform; dsimp only; split; exact z _; exact z _
  | minCycleTimeIf i x => unfold perform; dsimp only; split; exact z _; split; exact z _; exact z _
  | listMachines =>
    show (w.flatMap fun m => [(m.position : Int), (m.runTime : Int), (m.serviceTime : Int)]).length ≤ 78
    rw [list3_len]
    omega
theorem step_some {w : Workshop} {call : Sr120.Call} (h : call ≠ .create) : Sr120.step (some w) call = (some ((perform w call).1.getD w), (perform w call).2) := by
  have go : ∀ o : Option Workshop × Result, (some (o.1.getD w), o.2) = (match o with | (some changed, result) => (some changed, result) | (none, result) => (some w, result)) := fun o => by
    obtain ⟨x, y⟩ := o
    cases x <;> rfl
  cases call with
  | create => exact absurd rfl h
  | _ => first | rfl | exact (go _).symm
theorem step_none {call : Sr120.Call} (h : call ≠ .create) : Sr120.step none call = (none, .ofCode (-11)) := by
  cases call with
  | create => exact absurd rfl h
  | _ => rfl
theorem asked_rows {c : List (List Int)} (h : Sr120Neutral.asked1 c = true) : ∀ r ∈ c.tail, r.length ≤ 70 := by
  have one : ∀ l, Sr120Neutral.isListArgument l = true → l.length ≤ 70 := fun l q => by
    unfold Sr120Neutral.isListArgument at q
    rw [Bool.and_eq_true, decide_eq_true_eq] at q
    exact q.2
  unfold Sr120Neutral.asked1 at h
  split at h <;> intro r hr
  all_goals first
    | (exact absurd hr List.not_mem_nil)
    | (rw [List.mem_singleton.mp hr]; exact one _ h)
    | (rw [Bool.and_eq_true, Bool.and_eq_true] at h
       rcases List.mem_cons.mp hr with e | hr
       · rw [e]; exact one _ h.1.2
       · rw [List.mem_singleton.mp hr]; exact one _ h.2)
    | (cases h)
theorem parse_start {c : List (List Int)} {t : List Int} (h : Sr120Neutral.parseCall c = some (.startTimes t)) : t ∈ c.tail := by
  unfold Sr120Neutral.parseCall at h
  split at h <;> cases h
  exact List.mem_singleton.mpr rfl
theorem parse_create {p : Int} {xs : List Int} {rows : List (List Int)} {call : Sr120.Call} (h : Sr120Neutral.parseCall ((p :: xs) :: rows) = some call) : call = .create ↔ p = 0 := by
  generalize e : (p :: xs) :: rows = c at h
  unfold Sr120Neutral.parseCall at h
  split at h <;> cases h <;> cases e <;> constructor <;> intro z <;> first | rfl | cases z | (exact absurd z (by decide))
/-- what the asked list tells -/
theorem asked_parts {l : List Int} (h : PySr120.answers_asked l = true) : ∃ raw, PyFlat.calls PySr120.shape l.length l = some raw ∧ raw.length ≤ 60 ∧ (∀ c ∈ raw, Sr120Neutral.asked1 c = true) ∧ PySr120.answers l = PyFlat.told (PyFlat.played Sr120Neutral.step Sr120Neutral.start raw) := by
  unfold PySr120.answers_asked at h
  cases e : PyFlat.calls PySr120.shape l.length l with
  | none => rw [e] at h; cases h
  | some raw =>
    rw [e] at h
    dsimp only at h
    rw [Bool.and_eq_true, Bool.and_eq_true, Bool.and_eq_true, Bool.and_eq_true] at h
    obtain ⟨⟨⟨⟨_, h2⟩, _⟩, h4⟩, _⟩ := h
    rw [whole_map] at h4
    unfold Sr120Neutral.asked at h4
    rw [Bool.and_eq_true, Bool.and_eq_true] at h4
    refine ⟨raw, rfl, of_decide_eq_true h2, List.all_eq_true.mp h4.2.2, ?_⟩
    unfold PySr120.answers PySr120.calls
    rw [e]
    dsimp only
    rw [whole_map]
end Tw
namespace Tw
theorem shape_le {p : Int} {n k : Nat} (h : PySr120.shape p = some (n, k)) : n ≤ 3 ∧ k ≤ 2 := by
  unfold PySr120.shape at h
  by_cases c : p = 0
  · rw [if_pos c] at h
    cases h
    exact ⟨by decide, by decide⟩
  rw [if_neg c] at h
  clear c
  by_cases c : p = 1
  · rw [if_pos c] at h
    cases h
    exact ⟨by decide, by decide⟩
  rw [if_neg c] at h
  clear c
  by_cases c : p = 2
  · rw [if_pos c] at h
    cases h
    exact ⟨by decide, by decide⟩
  rw [if_neg c] at h
  clear c
  by_cases c : p = 3
  · rw [if_pos c] at h
    cases h
    exact ⟨by decide, by decide⟩
  rw [if_neg c] at h
  clear c
  by_cases c : p = 4
  · rw [if_pos c] at h
    cases h
    exact ⟨by decide, by decide⟩
  rw [if_neg c] at h
  clear c
  by_cases c : p = 5
  · rw [if_pos c] at h
    cases h
    exact ⟨by decide, by decide⟩
  rw [if_neg c] at h
  clear c
  by_cases c : p = 6
  · rw [if_pos c] at h
    cases h
    exact ⟨by decide, by decide⟩
  rw [if_neg c] at h
  clear c
  by_cases c : p = 7
  · rw [if_pos c] at h
    cases h
    exact ⟨by decide, by decide⟩
  rw [if_neg c] at h
  clear c
  by_cases c : p = 8
  · rw [if_pos c] at h
    cases h
    exact ⟨by decide, by decide⟩
  rw [if_neg c] at h
  clear c
  by_cases c : p = 9
  · rw [if_pos c] at h
    cases h
    exact ⟨by decide, by decide⟩
  rw [if_neg c] at h
  clear c
  by_cases c : p = 10
  · rw [if_pos c] at h
    cases h
    exact ⟨by decide, by decide⟩
  rw [if_neg c] at h
  clear c
  by_cases c : p = 11
  · rw [if_pos c] at h
    cases h
    exact ⟨by decide, by decide⟩
  rw [if_neg c] at h
  clear c
  by_cases c : p = 12
  · rw [if_pos c] at h
    cases h
    exact ⟨by decide, by decide⟩
  rw [if_neg c] at h
  clear c
  by_cases c : p = 13
  · rw [if_pos c] at h
    cases h
    exact ⟨by decide, by decide⟩
  rw [if_neg c] at h
  clear c
  by_cases c : p = 14
  · rw [if_pos c] at h
    cases h
    exact ⟨by decide, by decide⟩
  rw [if_neg c] at h
  clear c
  by_cases c : p = 15
  · rw [if_pos c] at h
    cases h
    exact ⟨by decide, by decide⟩
  rw [if_neg c] at h
  clear c
  by_cases c : p = 16
  · rw [if_pos c] at h
    cases h
    exact ⟨by decide, by decide⟩
  rw [if_neg c] at h
  clear c
  by_cases c : p = 17
  · rw [if_pos c] at h
    cases h
    exact ⟨by decide, by decide⟩
  rw [if_neg c] at h
  clear c
  cases h
end Tw

/-! # Plain words for the calls 9 to 17 -/
namespace Tw
open Sr120 SrCommon
/-! ### what machines may be -/
def Fits (m : Machine) : Prop := m.position ≤ 99 ∧ m.runTime ≤ 99 ∧ 1 ≤ m.serviceTime ∧ m.serviceTime ≤ 99
def Fit (w : Workshop) : Prop := ∀ m ∈ w, Fits m
theorem Fit.nil : Fit [] := fun _ h => nomatch h
theorem Fit.push {w : Workshop} {m : Machine} (h : Fit w) (k : Fits m) : Fit (w ++ [m]) := fun x hx => by
  rcases List.mem_append.mp hx with hx | hx
  · exact h x hx
  · rw [List.mem_singleton.mp hx]
    exact k
theorem Fit.cut {w : Workshop} (h : Fit w) (i : Nat) : Fit (w.eraseIdx i) := fun x hx => h x (List.mem_of_mem_eraseIdx hx)
theorem Fit.set {w : Workshop} {m : Machine} (h : Fit w) (i : Nat) (k : Fits m) : Fit (w.set i m) := fun x hx => by
  rcases List.mem_or_eq_of_mem_set hx with hx | hx
  · exact h x hx
  · rw [hx]
    exact k
theorem Fit.at {w : Workshop} (h : Fit w) {i : Nat} (hi : i < w.length) : Fits (machineAt w i) := by
  unfold machineAt
  rw [List.getD_eq_getElem?_getD, List.getElem?_eq_getElem hi]
  exact h _ (List.getElem_mem hi)
/-! ### the wall order by position, then index -/
def before (w : Workshop) (i j : Nat) : Prop := pos w i < pos w j ∨ (pos w i = pos w j ∧ i < j)
theorem insert_lex (w : Workshop) (i : Nat) : ∀ l : List Nat, l.Pairwise (before w) → (∀ j ∈ l, j < i) → (insertByPosition w i l).Pairwise (before w)
  | [], _, _ => by
    unfold insertByPosition
    simp
  | j :: r, h, hl => by
    have h2 := List.pairwise_cons.mp h
    unfold insertByPosition
    split
    · rename_i c
      refine List.pairwise_cons.mpr ⟨fun k hk => ?_, h⟩
      have c : pos w i < pos w j := c
      rcases List.mem_cons.mp hk with e | hk
      · subst e
        exact .inl c
      · rcases h2.1 k hk with q | q
        · exact .inl (by omega)
        · exact .inl (by omega)
    · rename_i c
      have c : ¬ pos w i < pos w j := c
      refine List.pairwise_cons.mpr ⟨fun k hk => ?_, insert_lex w i r h2.2 fun j hj => hl j (List.mem_cons_of_mem _ hj)⟩
      rcases List.mem_cons.mp ((insert_perm w i r).mem_iff.mp hk) with e | hk
      · subst e
        have := hl j (List.mem_cons_self ..)
        unfold before
        omega
      · exact h2.1 k hk
theorem order_lex_go (w : Workshop) : ∀ (l acc : List Nat), acc.Pairwise (before w) → l.Pairwise (· < ·) → (∀ i ∈ l, ∀ j ∈ acc, j < i) → (l.foldl (fun s i => insertByPosition w i s) acc).Pairwise (before w)
  | [], acc, h, _, _ => h
  | i :: r, acc, h, hl, ha => by
    have h2 := List.pairwise_cons.mp hl
    refine order_lex_go w r _ (insert_lex w i acc h (ha i (List.mem_cons_self ..))) h2.2 fun x hx j hj => ?_
    rcases List.mem_cons.mp ((insert_perm w i acc).mem_iff.mp hj) with e | hj
    · subst e
      exact h2.1 x hx
    · exact ha x (List.mem_cons_of_mem _ hx) j hj
theorem order_lex (w : Workshop) (s : List Nat) (h : s.Pairwise (· < ·)) : (wallOrder w s).Pairwise (before w) := order_lex_go w s [] .nil h fun _ _ _ h => nomatch h
theorem order_one {w : Workshop} {s t : List Nat} (h : s.Pairwise (· < ·)) (p : t.Perm s) (ht : t.Pairwise fun i j => ¬ before w j i) : t = wallOrder w s := by
  refine List.Perm.eq_of_pairwise (le := fun i j => ¬ before w j i) (fun a b _ _ h1 h2 => ?_) ht ((order_lex w s h).imp fun q r => ?_) (p.trans (order_perm w s).symm)
  · unfold before at h1 h2
    omega
  · unfold before at q r
    omega
/-! ### start times -/
def arr (w : Workshop) (t : List Nat) : Nat → Nat
  | 0 => 0
  | k + 1 => arr w t k + (machineAt w (t.getD k 0)).serviceTime + distance (pos w (t.getD k 0)) (pos w (t.getD ((k + 1) % t.length) 0))
def arrs (w : Workshop) (t : List Nat) : Nat → Nat
  | 0 => 0
  | k + 1 => arrs w t k + (machineAt w (t.getD k 0)).serviceTime + distance (pos w (t.getD k 0)) (pos w (t.getD (k + 1) 0))
theorem arrs_cons (w : Workshop) (i j : Nat) (r : List Nat) : ∀ k, arrs w (i :: j :: r) (k + 1) = (machineAt w i).serviceTime + distance (pos w i) (pos w j) + arrs w (j :: r) k
  | 0 => by
    show 0 + (machineAt w i).serviceTime + distance (pos w i) (pos w j) = _ + 0
    omega
  | k + 1 => by
    have q := arrs_cons w i j r k
    have e1 : arrs w (i :: j :: r) (k + 1 + 1) = arrs w (i :: j :: r) (k + 1) + (machineAt w ((j :: r).getD k 0)).serviceTime + distance (pos w ((j :: r).getD k 0)) (pos w ((j :: r).getD (k + 1) 0)) := rfl
    have e2 : arrs w (j :: r) (k + 1) = arrs w (j :: r) k + (machineAt w ((j :: r).getD k 0)).serviceTime + distance (pos w ((j :: r).getD k 0)) (pos w ((j :: r).getD (k + 1) 0)) := rfl
    omega
theorem starts_at (w : Workshop) : ∀ (t : List Nat) (s k : Nat), k < t.length → (startTimesFrom w t s)[k]? = some (s + arrs w t k)
  | [], _, _, h => nomatch h
  | [i], s, 0, _ => rfl
  | [i], s, k + 1, h => absurd h (by simp)
  | i :: j :: r, s, 0, _ => rfl
  | i :: j :: r, s, k + 1, h => by
    have q := starts_at w (j :: r) (s + (machineAt w i).serviceTime + distance (machineAt w i).position (machineAt w j).position) k (by simpa using h)
    have e : (startTimesFrom w (i :: j :: r) s)[k + 1]? = (startTimesFrom w (j :: r) (s + (machineAt w i).serviceTime + distance (machineAt w i).position (machineAt w j).position))[k]? := rfl
    rw [e, q, arrs_cons]
    congr 1
    show _ + _ + distance (pos w i) (pos w j) + _ = _
    omega
theorem arr_arrs (w : Workshop) (t : List Nat) : ∀ k, k < t.length → arr w t k = arrs w t k
  | 0, _ => rfl
  | k + 1, h => by
    unfold arr arrs
    rw [arr_arrs w t k (by omega), Nat.mod_eq_of_lt h]
theorem starts_eq (w : Workshop) (t : List Nat) : startTimes w t = (List.range t.length).map (arr w t) := by
  refine List.ext_getElem? fun k => ?_
  by_cases c : k < t.length
  · unfold startTimes
    rw [starts_at w t 0 k c, List.getElem?_map, List.getElem?_range c, ← arr_arrs w t k c, Nat.zero_add]
    rfl
  · have e : (startTimes w t).length = t.length := starts_len w t 0
    rw [List.getElem?_eq_none (by omega), List.getElem?_eq_none (by rw [List.length_map, List.length_range]; omega)]
/-! ### the longest of the own times -/
theorem own_le (w : Workshop) (t : List Nat) {i : Nat} (h : i ∈ t) : (machineAt w i).runTime + (machineAt w i).serviceTime ≤ longestMachineCycle w t := by
  unfold longestMachineCycle
  exact foldl_max_ge _ _ _ (List.mem_map.mpr ⟨i, h, rfl⟩)
theorem longest_le {w : Workshop} {t : List Nat} {c : Nat} (h : ∀ i ∈ t, (machineAt w i).runTime + (machineAt w i).serviceTime ≤ c) : longestMachineCycle w t ≤ c := by
  unfold longestMachineCycle
  refine foldl_max_le _ _ _ (Nat.zero_le _) fun x hx => ?_
  obtain ⟨i, hi, rfl⟩ := List.mem_map.mp hx
  exact h i hi
theorem longest_closed (w : Workshop) (t : List Nat) : longestMachineCycle w t ≤ closed w t := Nat.le_max_right ..
/-! ### feasible -/
def nextOf (starts : List Nat) (cycle k : Nat) : Nat := if k + 1 = starts.length then starts.headD 0 + cycle else starts.getD (k + 1) 0
def hop (w : Workshop) (t : List Nat) (k : Nat) : Nat := (machineAt w (t.getD k 0)).serviceTime + distance (pos w (t.getD k 0)) (pos w (t.getD ((k + 1) % t.length) 0))
theorem next_mod {t : List Nat} {k : Nat} (h : k < t.length) : (if k + 1 = t.length then t.headD 0 else t.getD (k + 1) 0) = t.getD ((k + 1) % t.length) 0 := by
  by_cases c : k + 1 = t.length
  · rw [if_pos c, c, Nat.mod_self]
    cases t <;> rfl
  · rw [if_neg c, Nat.mod_eq_of_lt (by omega)]
theorem feas_body {w : Workshop} {t s : List Nat} {c k : Nat} (e : s.length = t.length) (h : k < t.length) :
    (decide (s.getD k 0 + (machineAt w (t.getD k 0)).serviceTime + distance (machineAt w (t.getD k 0)).position (machineAt w (if k + 1 = t.length then t.headD 0 else t.getD (k + 1) 0)).position ≤ (if k + 1 = t.length then s.headD 0 + c else s.getD (k + 1) 0)) &&
      decide ((machineAt w (t.getD k 0)).runTime + (machineAt w (t.getD k 0)).serviceTime ≤ c)) =
    (decide (s.getD k 0 + hop w t k ≤ nextOf s c k) && decide ((machineAt w (t.getD k 0)).runTime + (machineAt w (t.getD k 0)).serviceTime ≤ c)) := by
  rw [next_mod h]
  unfold hop nextOf
  rw [e, Nat.add_assoc]
theorem feas_eq {w : Workshop} {t s : List Nat} {c : Nat} (e : s.length = t.length) : isFeasible w t s c = (List.range t.length).all fun k => decide (s.getD k 0 + hop w t k ≤ nextOf s c k) && decide ((machineAt w (t.getD k 0)).runTime + (machineAt w (t.getD k 0)).serviceTime ≤ c) := by
  unfold isFeasible
  rw [decide_eq_true e, Bool.true_and]
  rw [Bool.eq_iff_iff, List.all_eq_true, List.all_eq_true]
  refine ⟨fun q k hk => ?_, fun q k hk => ?_⟩
  · rw [← feas_body e (List.mem_range.mp hk)]
    exact q k hk
  · have z := q k hk
    rw [← feas_body e (List.mem_range.mp hk)] at z
    exact z
theorem feas_yes {w : Workshop} {t s : List Nat} {c : Nat} (e : s.length = t.length) (h1 : longestMachineCycle w t ≤ c) (h2 : ∀ k, k < t.length → s.getD k 0 + hop w t k ≤ nextOf s c k) : isFeasible w t s c = true := by
  rw [feas_eq e, List.all_eq_true]
  intro k hk
  have hk := List.mem_range.mp hk
  rw [decide_eq_true (h2 k hk), decide_eq_true (Nat.le_trans (own_le w t (getD_mem hk)) h1)]
  rfl
theorem feas_no1 {w : Workshop} {t s : List Nat} {c : Nat} (e : s.length = t.length) (h : c < longestMachineCycle w t) : isFeasible w t s c = false := by
  rw [Bool.eq_false_iff]
  intro q
  rw [feas_eq e, List.all_eq_true] at q
  have := longest_le (w := w) (t := t) (c := c) fun i hi => by
    obtain ⟨k, hk⟩ := List.getElem?_of_mem hi
    obtain ⟨hk2, hk3⟩ := List.getElem?_eq_some_iff.mp hk
    have z := q k (List.mem_range.mpr hk2)
    rw [Bool.and_eq_true, decide_eq_true_eq, decide_eq_true_eq] at z
    have e3 : t.getD k 0 = i := by
      rw [List.getD_eq_getElem?_getD, hk]
      rfl
    rw [e3] at z
    exact z.2
  omega
theorem feas_no2 {w : Workshop} {t s : List Nat} {c k : Nat} (e : s.length = t.length) (hk : k < t.length) (h : nextOf s c k < s.getD k 0 + hop w t k) : isFeasible w t s c = false := by
  rw [Bool.eq_false_iff]
  intro q
  rw [feas_eq e, List.all_eq_true] at q
  have z := q k (List.mem_range.mpr hk)
  rw [Bool.and_eq_true, decide_eq_true_eq, decide_eq_true_eq] at z
  omega
/-! ### the fraction -/
theorem frac {n m : Nat} (hm : 1 ≤ m) : SrFraction.encode (SrFraction.mk (n : Int) m) = [((n / Nat.gcd n m : Nat) : Int), ((m / Nat.gcd n m : Nat) : Int)] := by
  unfold SrFraction.mk
  rw [Int.natAbs_natCast]
  have h1 : 0 < Nat.gcd n m := Nat.gcd_pos_of_pos_right _ (by omega)
  have h2 : 0 < m / Nat.gcd n m := Nat.div_pos (Nat.le_of_dvd (by omega) (Nat.gcd_dvd_right n m)) h1
  dsimp only
  rw [if_neg (by omega), if_neg (by omega)]
  unfold SrFraction.encode
  simp only [Int.natCast_ediv]
theorem gcd_turn (a b : Nat) : Nat.gcd a b = Nat.gcd b (a % b) := by
  rw [Nat.gcd_comm a b, Nat.gcd_rec b a, Nat.gcd_comm]
theorem sum_le {l : List Nat} {c : Nat} (h : ∀ x ∈ l, x ≤ c) : l.sum ≤ c * l.length := by
  induction l with
  | nil => exact Nat.zero_le _
  | cons a r ih =>
    have h1 := h a (List.mem_cons_self ..)
    have h2 := ih fun x hx => h x (List.mem_cons_of_mem _ hx)
    rw [List.sum_cons, List.length_cons, Nat.mul_succ]
    omega
theorem closed_most {w : Workshop} {t : List Nat} (f : Fit w) (ht : ∀ i ∈ t, i < w.length) (hl : t.length ≤ 6) : closed w t ≤ 1000 := by
  have h1 : service w t ≤ 99 * t.length := by
    unfold service
    rw [sum_eq]
    have q := sum_le (l := t.map fun i => (machineAt w i).serviceTime) (c := 99) fun x hx => by
      obtain ⟨i, hi, rfl⟩ := List.mem_map.mp hx
      exact (f.at (ht i hi)).2.2.2
    rw [List.length_map] at q
    exact q
  have h2 : longestMachineCycle w t ≤ 198 := longest_le fun i hi => by
    have := f.at (ht i hi)
    unfold Fits at this
    omega
  have h3 : hi w t ≤ 99 := by
    by_cases c : t = []
    · subst c
      exact Nat.zero_le _
    · obtain ⟨x, hx, e⟩ := hi_is w t c
      rw [e]
      exact (f.at (ht x hx)).1
  unfold closed
  omega
theorem closed_least {w : Workshop} {t : List Nat} (f : Fit w) (ht : ∀ i ∈ t, i < w.length) (h0 : t ≠ []) : 1 ≤ closed w t := by
  cases t with
  | nil => exact absurd rfl h0
  | cons i r =>
    have h := (f.at (ht i (List.mem_cons_self ..))).2.2.1
    have h1 : service w (i :: r) = (machineAt w i).serviceTime + (r.map fun i => (machineAt w i).serviceTime).sum := by
      unfold service
      rw [sum_eq, List.map_cons, List.sum_cons]
    unfold closed
    omega
theorem busy_closed (w : Workshop) (s : List Nat) : busyTime w (wallOrder w s) ≤ closed w s := by
  rw [← order_cycle w s]
  exact Nat.le_max_left ..
/-! ### the members of a bitmask -/
def bits (m : Nat) : Nat := if m = 0 then 0 else m.log2 + 1
theorem members_six : (List.range 64).all (fun m => (List.range (bits m)).filter (fun i => m / 2 ^ i % 2 == 1) == set6 m && decide (bits m ≤ 6)) = true := by decide +kernel
theorem members_eq {n m : Nat} (h : n ≤ 6) (hm : m < 2 ^ n) : (List.range (bits m)).filter (fun i => m / 2 ^ i % 2 == 1) = maskMembers n m ∧ bits m ≤ 6 := by
  obtain ⟨e, h64⟩ := mask_six h hm
  have q := List.all_eq_true.mp members_six m (List.mem_range.mpr h64)
  rw [Bool.and_eq_true] at q
  rw [e]
  exact ⟨eq_of_beq q.1, of_decide_eq_true q.2⟩
theorem mask_lt {n m : Nat} : ∀ i ∈ maskMembers n m, i < n := fun _ h => List.mem_range.mp (List.mem_filter.mp h).1
theorem pow_le {n : Nat} (h : n ≤ 6) : 2 ^ n ≤ 64 := (Nat.pow_le_pow_right (by decide) h : 2 ^ n ≤ 2 ^ 6)
/-! ### the largest group -/
def grp (w : Workshop) (lim : Nat) (best : List Nat) (x : Nat) : List Nat := if best.length < (maskMembers w.length x).length ∧ closed w (maskMembers w.length x) ≤ lim then maskMembers w.length x else best
def grps (w : Workshop) (lim k : Nat) : List Nat := (List.range k).foldl (grp w lim) []
theorem grps_eq (w : Workshop) (lim : Nat) : largestGroup w lim = grps w lim (2 ^ w.length) := by
  unfold largestGroup grps
  congr 1
  funext best x
  dsimp only
  rw [order_cycle]
  rfl
theorem grps_succ (w : Workshop) (lim k : Nat) : grps w lim (k + 1) = grp w lim (grps w lim k) k := by
  unfold grps
  rw [List.range_succ, List.foldl_append]
  rfl
theorem grps_len (w : Workshop) (lim : Nat) : ∀ k, (grps w lim k).length ≤ w.length
  | 0 => Nat.zero_le _
  | k + 1 => by
    rw [grps_succ]
    unfold grp
    split
    · exact mask_len _ _
    · exact grps_len w lim k
/-! ### another run time -/
theorem if_len (w : Workshop) (i r : Nat) : (withRunTime w i r).length = w.length := List.length_set ..
theorem if_all (w : Workshop) (i r : Nat) : allMachines (withRunTime w i r) = allMachines w := by
  unfold allMachines
  rw [if_len]
theorem if_at (w : Workshop) {i : Nat} (r : Nat) (hi : i < w.length) (j : Nat) : machineAt (withRunTime w i r) j = if j = i then { machineAt w i with runTime := r } else machineAt w j := by
  unfold withRunTime
  show (w.set i _).getD j _ = _
  rw [List.getD_eq_getElem?_getD, List.getElem?_set]
  by_cases c : j = i
  · subst c
    rw [if_pos rfl, if_pos hi, if_pos rfl]
    rfl
  · rw [if_neg (fun e => c e.symm), if_neg c]
    unfold machineAt
    rw [List.getD_eq_getElem?_getD]
/-! ### the machines told -/
def tell (m : Machine) : List Int := [(m.position : Int), (m.runTime : Int), (m.serviceTime : Int)]
theorem tell_len : ∀ l : List Machine, (l.flatMap tell).length = 3 * l.length
  | [] => rfl
  | m :: r => by
    rw [List.flatMap_cons, List.length_append, tell_len r, List.length_cons]
    show 3 + _ = _
    omega
theorem tell_succ {w : Workshop} {k : Nat} {m : Machine} (h : w[k]? = some m) : (w.take (k + 1)).flatMap tell = (w.take k).flatMap tell ++ tell m := by
  rw [List.take_add_one, h, List.flatMap_append]
  simp [List.flatMap_cons]
theorem sorted_range (w : Workshop) : (allMachines w).Pairwise (· < ·) := List.pairwise_lt_range
theorem all_lt {w : Workshop} : ∀ i ∈ allMachines w, i < w.length := fun _ h => List.mem_range.mp h
theorem all_len (w : Workshop) : (allMachines w).length = w.length := List.length_range
end Tw
namespace Tw
/-! ### the next start of each -/
def nexts (s : List Nat) (c : Nat) : List Nat := s.drop 1 ++ (s.map fun x => x + c).take 1
theorem nexts_at {s : List Nat} {c k : Nat} (h : k < s.length) : k < (nexts s c).length ∧ (nexts s c).getD k 0 = nextOf s c k := by
  cases s with
  | nil => cases h
  | cons x r =>
    have e : nexts (x :: r) c = r ++ [x + c] := rfl
    have hk : k < r.length + 1 := h
    rw [e]
    refine ⟨by rw [List.length_append]; exact h, ?_⟩
    rw [List.getD_eq_getElem?_getD]
    unfold nextOf
    by_cases q : k + 1 = (x :: r).length
    · have q2 : k = r.length := by
        have q : k + 1 = r.length + 1 := q
        omega
      rw [if_pos q, List.getElem?_append_right (by omega), q2, Nat.sub_self]
      rfl
    · have q2 : k < r.length := by
        have q : ¬ k + 1 = r.length + 1 := q
        omega
      rw [if_neg q, List.getElem?_append_left q2, List.getD_eq_getElem?_getD]
      rfl
end Tw

set_option maxRecDepth 100000
set_option maxHeartbeats 4000000
/-! # Errors of the program's own under Exception, whose __init__ is walked as a def; a base's __init__ called by its class's name; the field of a caught one -/
namespace TwX
open PySem PySem.W PySem.Calls PyProof.Rows PySem.HandSPX Builtin Builtin.ObjectAttr
abbrev exEnd : List Value := [.type "Exception", .type "BaseException", .type "object"]
/-- own classes, then what Exception has above it -/
def ownEx : List Value → Bool
  | .ref _ :: rest => ownEx rest
  | other => other == exEnd
theorem ownEx_two : ∀ l : List Value, ownEx l = true → (∃ c r, l = .ref c :: r ∧ ownEx r = true) ∨ l = exEnd
  | .ref c :: r, h => .inl ⟨c, r, rfl, h⟩
  | [], h => .inr (eq_of_beq h)
  | .none :: _, h => .inr (eq_of_beq h)
  | .ellipsis :: _, h => .inr (eq_of_beq h)
  | .notImplemented :: _, h => .inr (eq_of_beq h)
  | .bool _ :: _, h => .inr (eq_of_beq h)
  | .int _ _ :: _, h => .inr (eq_of_beq h)
  | .float _ _ :: _, h => .inr (eq_of_beq h)
  | .str _ _ :: _, h => .inr (eq_of_beq h)
  | .bytes _ _ :: _, h => .inr (eq_of_beq h)
  | .type _ :: _, h => .inr (eq_of_beq h)
  | .builtin _ :: _, h => .inr (eq_of_beq h)
theorem ownEx_pass (self : Value) : ∀ l : List Value, ownEx l = true → refuseLoop self "__setattr__" l = pure ()
  | [], h => absurd h (by decide)
  | a :: r, h => by
    rcases ownEx_two (a :: r) h with ⟨c, r2, e, h2⟩ | e
    · cases e
      rw [refuseLoop_ref]
      exact ownEx_pass self r h2
    · rw [e]
      exact F.store_Exception.passes self
theorem ownEx_has (X : String) : ∀ l : List Value, ownEx l = true → l.contains (.type X) = exEnd.contains (.type X)
  | [], h => absurd h (by decide)
  | a :: r, h => by
    rcases ownEx_two (a :: r) h with ⟨c, r2, e, h2⟩ | e
    · cases e
      rw [List.contains_cons, ownEx_has X r h2]
      rfl
    · rw [e]
theorem ownEx_some {l : List Value} (h : ownEx l = true) : l.isEmpty = false := by
  cases l with
  | nil => exact absurd h (by decide)
  | cons _ _ => rfl
section
variable {prog : Program} {w : World} {A : Around} {R : Result → Shared → Prop} {hp : Heap} {g : Array GenState} {d : Drawn} {t : Nat} {os : OsState}
/-- the first field stored on such an error -/
theorem first_field {K : Frag} {name : Str} {tk : Tok} {v : Value} {x C : Addr} {fv : Array Value} {cd : ClassData}
    (X : K.In hp) (hx : hp.get? x = some { cls := .ref C, data := .fields fv }) (hcd : clsIn K C = some cd) (hm : ownEx cd.mro = true) (hh : cd.hasDict = true) (ha : findIn K (.ref C) name = some none)
    (hq : ∀ h' tk' dx, (∀ b o, b ≠ x → hp.get? b = some o → h'.get? b = some o) → hp.objs.size ≤ dx → dx ≠ x →
      h'.get? x = some { cls := .ref C, dict := some dx, data := .fields fv } → h'.Ns1 dx (fun y => if y = name then some v else none) → R (.ok (.ret .none)) ⟨h', g, d, tk', os⟩) :
    codeAny (model prog w) A (.call (.builtin "object.__setattr__") ⟨[.ref x, .str name tk, v], []⟩) R ⟨hp, g, d, t, os⟩ := by
  have J : InstAt hp x { cls := .ref C, data := .fields fv } C none := ⟨hx, rfl, rfl, trivial⟩
  have S := F.store_object
  have full := ownEx_some hm
  have obj : cd.mro.contains (.type "object") = true := (ownEx_has "object" _ hm).trans (by decide +kernel)
  have far : x ≠ hp.objs.size := Nat.ne_of_lt (Heap.lt_size hx)
  have isO : Looks (model prog w) hp (isInstance (.ref x) (.type "object")) true :=
    J.type.andThen (looks_mroIn X (by unfold mroIn; rw [hcd, Option.bind_some, if_neg (by rw [full]; decide), obj]))
  refine codeAny_call_builtin S.slot.plain S.entry ?_
  refine @check_slot (model prog w) _ _ ⟨hp, g, d, t, os⟩ "object.__setattr__" "object" "__setattr__" (.ref x) [.str name tk, v] [] _ S.kind S.split isO (S.args (.ref x) (.str name tk) v) ?_
  have L1 : Looks (model prog w) hp (mroOf (.ref C)) cd.mro := (looks_clsIn X hcd).andThen .now
  have L2 : Looks (model prog w) hp (classData C) cd := looks_clsIn X hcd
  have L3 : Looks (model prog w) hp (storeTaker? none) none := .now
  rw [osa_eq, refuse_eq]
  refine wpAny_bind (wpAny_bind (J.type.at (wpAny_bind (L1.at ?_))))
  rw [ownEx_pass _ _ hm]
  refine wpAny_pure (wpAny_bind (J.type.at ?_))
  refine wpAny_bind ((looks_findIn X ha).at (wpAny_bind (L3.at ?_)))
  show wpAny _ _ (storeInOwnDict (.ref x) (.ref C) (.str name tk) name v false) _ _ _
  obtain ⟨nm, bs, mro, ns, qn, hd, sn, sb, ab, col, dl⟩ := cd
  dsimp only at hh
  subst hh
  unfold storeInOwnDict ownDictForStores
  repeat (first | with_reducible refine HandSPX.store_in_new ?_ ?_ | with_reducible refine wpAny_loadPart_at hx ?_ | with_reducible refine L2.at ?_ | wp_step)
  · exact ⟨_, #[], _, (Heap.get?_update_ne _ _ _ _ far.symm).trans (Heap.get?_push_at rfl rfl), rfl, fun e he => absurd he (by simp), fun _ => rfl⟩
  · intro h' tk' hn' same
    have hx2 : (hp.push { cls := .type "dict", data := .dict #[] }).get? x = some { cls := .ref C, data := .fields fv } := Heap.get?_push_of_some _ hx
    refine hq h' tk' hp.objs.size (fun b o hb ho => ?_) (Nat.le_refl _) far.symm ?_ hn'
    · have e1 := same.2 b (Nat.ne_of_lt (Heap.lt_size ho))
      exact e1.trans ((Heap.get?_update_ne _ _ _ _ hb).trans (Heap.get?_push_of_some _ ho))
    · exact (same.2 x far).trans (Heap.get?_update_self _ hx2 rfl)
end
end TwX
namespace TwX
open PySem PySem.Spec PyProof.Rows L2
/-- what the written part says of an error's class at C -/
structure ErrC (K : PySem.W.Frag) (C : Addr) : Prop where
  cls : ∃ nm q N bs bm sn sub ab col dd k0 k1 k2 k3 k5, K.lookup C = some (excClassObj nm q C N bs bm true sn sub ab col dd k0 k1 k2 k3 k5 "Exception.__new__") ∧ ownEx bm = true
  set : PySem.W.findIn K (.ref C) "__setattr__" = some (some (.builtin "object.__setattr__"))
  isB : PySem.W.subIn K (.ref C) (.type "BaseException") = some true
  isT : PySem.W.typeIn K (.ref C) = some (.type "type")
  kp : PySem.W.keepIn K (.ref C) = true
section
variable {X : Cx} {pins : List (Addr × Obj)} {σ : L2.St} {H : Hp} {s : Shared} {a C : Addr} {f : Str} {y : V} {u : Value} {Q : Unit → Shared → Prop} {E : Value → Shared → Prop} {A : Around}
theorem err_store (T : ErrC X.K C) (I : Inv X pins σ H s) (e : H a = some (exo a C none)) (hno : PySem.W.findIn X.K (.ref C) f = some none) (ry : RelV y u)
    (h : ∀ dx s', H dx = none → dx ≠ a → Inv X pins σ (upd (upd H dx (exd dx [(f, y)])) a (exo a C (some dx))) s' → Q () s') : wpAny (model X.prog X.w) A (setAttr (.ref a) f u) Q E s := by
  obtain ⟨nm, q, N, bs, bm, sn, sub, ab, col, dd, k0, k1, k2, k3, k5, hC, hbm⟩ := T.cls
  have hcl : PySem.W.clsIn X.K C = some { name := nm, bases := bs, mro := .ref C :: bm, ns := N, qualname := q, hasDict := true, slotNames := sn, subclasses := sub, abstract := ab, collection := col, hasDel := false } := by
    unfold PySem.W.clsIn
    rw [hC] <;> rfl
  obtain ⟨t1, ho⟩ := exo_at I.hok e
  obtain ⟨hp, g, d, t, os⟩ := s
  refine PySem.W.set_plain I.kIn (ox := { cls := .ref C, dict := none, data := .fields #[.ref t1, .none, .none, .none, .bool false, .none] }) (od := none) ⟨ho, rfl, rfl, trivial⟩ T.set ?_
  refine first_field I.kIn ho hcl (show ownEx (.ref C :: bm) = true from hbm) rfl hno (fun h' tk' dx k dn dne hx hn => ?_)
  have newD : H dx = none := I.hok.fresh dn
  have oldD : ∀ {b : Addr} {o : Obj}, hp.get? b = some o → b ≠ dx := fun {b o} z => Nat.ne_of_lt (Nat.lt_of_lt_of_le (Heap.lt_size z) dn)
  have notA : ∀ {b : Addr}, H b = none → b ≠ a := fun {b} n z => by
    rw [z, e] at n
    cases n
  have U : Un X.fs [] H (upd (upd H dx (exd dx [(f, y)])) a (exo a C (some dx))) hp h' := {
    keep := fun b o z n _ _ => k b o (notA n) z
    slot := fun b o z n _ _ => ⟨o.slots, k b o (notA n) z⟩
    free := fun b o z n _ => by
      rw [upd_ne (notA n), upd_ne (oldD z)]
      exact n
    there := fun b o z _ => by
      by_cases hb : b = a
      · exact ⟨_, by rw [hb]; exact hx⟩
      · exact ⟨o, k b o hb z⟩
    tups := fun b xs z => by
      rw [upd_ne (at_ne e z exo_tup), upd_ne (ne_of_none z newD)]
      exact z
    frzs := fun b o v z => by
      rw [upd_ne (at_ne e z exo_frz), upd_ne (ne_of_none z newD)]
      exact z
    tbls := fun b ps z => ⟨#[], by rw [upd_ne (at_ne e z exo_tbl), upd_ne (ne_of_none z newD), z]; simp⟩ }
  refine h dx _ newD dne (I.un (t' := tk') U fun b o z => ?_)
  by_cases hb : b = a
  · subst hb
    rw [upd_same] at z
    cases z
    exact exo_ok hx
  · rw [upd_ne hb] at z
    by_cases hd : b = dx
    · subst hd
      rw [upd_same] at z
      cases z
      exact exd_ok hn (relO_put (fs := []) ry fun g => True.intro)
    · rw [upd_ne hd] at z
      refine (I.hok b o z).stay (fun c v hc y => ?_) (fun c hc => ?_) (fun c xs hc => ?_)
      · refine k c v ?_ y
        rcases hc with hc | hc
        · rw [hc]
          exact hb
        · exact at_ne e hc exo_own
      · rw [upd_ne (at_ne e hc exo_own), upd_ne (ne_of_none hc newD)]
        exact hc
      · rw [upd_ne (at_ne e hc exo_tup), upd_ne (ne_of_none hc newD)]
        exact hc
end
/-! ### self.f = e in such an __init__ -/
def tErrSet (K : PySem.W.Frag) (f : Str) (to te : TE) : TS := fun D σ H => te σ H fun y H1 => to σ H1 fun x H2 => ∃ a C : Addr, x = .ref a ∧ ErrC K C ∧ PySem.W.findIn K (.ref C) f = some none ∧
  H2 a = some (exo a C none) ∧ ∀ dx, H2 dx = none → dx ≠ a → D.nx σ (upd (upd H2 dx (exd dx [(f, y)])) a (exo a C (some dx)))
section
variable {X : Cx} {o e : Expr} {es : List Expr} {to te : TE} {ta : TA} {f : Str} {p p2 pos : Pos}
theorem ps_errSet (ho : PE X o to) (he : PE X e te) (hs : swapsWith e (some (.Attribute o f p2)) pos.line X.env = pure false := by rfl) : PS X (.Assign [.Attribute o f p2] e pos) (tErrSet X.K f to te) := by
  refine ⟨fun pins s σ H D I h => ?_⟩
  refine plainObj_wpAny_Assign_Attribute (thn (he.run pins s σ H _ I h) fun v s1 ⟨y, H1, I1, r1, q1⟩ => ?_) hs
  refine thn (ho.run pins s1 σ H1 _ I1 q1) fun u s2 ⟨x, H2, I2, r2, a, C, ex, T, hno, ea, q⟩ => ?_
  subst ex
  obtain rfl : u = Value.ref a := r2
  exact err_store T I2 ea hno r1 fun dx s' n ne J => ⟨σ, _, J, q dx n ne⟩
/-! ### C(e, ..), C an error's class with an __init__ that keeps its promise -/
def tErrNew (C : Addr) (sp : Sp) (ta : TA) : L2.St → Hp → XK → Prop := fun σ H Q => ta σ H fun vs H1 => vs.length ≤ 1000 ∧ ∀ a, H1 a = none → sp (.ref a :: vs) (upd H1 a (exo a C none))
  (fun v H2 => v = .non ∧ ∃ (d : Addr) (fs : List (Str × V)), H2 a = some (exo a C (some d)) ∧ H2 d = some (exd d fs) ∧ H1 d = none ∧ Q (.ref C) (some d) (upd (del H2 a) d (.xd fs))) (fun _ _ _ => False)
theorem err_made {CX : CXT} {C fI : Addr} {k : Nat} {fd : FuncData} {ps : List Str} {sp : Sp} {pins : List (Addr × Obj)} {σ : L2.St} {H : Hp} {s : Shared} {Q : XK} {us : List Value} {vs : List V}
    (T : ErrC X.K C) (iC : PySem.W.findIn X.K (.ref C) "__init__" = some (some (.ref fI))) (tI : PySem.W.typeIn X.K (.ref fI) = some (.type "function"))
    (F1 : FnOk X.prog X.w X.K X.mg X.base CX k fI fd ps sp) (hr : Room (k + 1) X.A) (hb : Binds X.K fd ps []) (hx : Passes CX X (fun _ _ _ => False)) (I1 : Inv X pins σ H s) (r1 : Vals vs us)
    (h : vs.length ≤ 1000 ∧ ∀ a, H a = none → sp (.ref a :: vs) (upd H a (exo a C none))
      (fun v H2 => v = .non ∧ ∃ (d : Addr) (fs : List (Str × V)), H2 a = some (exo a C (some d)) ∧ H2 d = some (exd d fs) ∧ H d = none ∧ Q (.ref C) (some d) (upd (del H2 a) d (.xd fs))) (fun _ _ _ => False)) :
    wpAny (model X.prog X.w) X.A (call (.ref C) us) (MkP X pins σ Q) X.xe s := by
  obtain ⟨hz, q1⟩ := h
  obtain ⟨nm, q, N, bs, bm, sn, sub, ab, col, dd, k0, k1, k2, k3, k5, hC, hbm⟩ := T.cls
  obtain ⟨hp, g, dr, tk, os⟩ := s
  have one : hp.objs.size ≤ hp.objs.size + 1 := Nat.le_succ _
  have hn : H (hp.objs.size + 1) = none := I1.hok.fresh one
  have hq := q1 (hp.objs.size + 1) hn
  have kk : ∀ b o, hp.get? b = some o → ((hp.push (PySem.W.kdv_tup us)).push (PySem.HandSPX.excO C hp.objs.size)).get? b = some o := fun b o z => by
    have z1 := Heap.get?_push_of_some (PySem.W.kdv_tup us) z
    exact Heap.get?_push_of_some _ z1
  have hg : ((hp.push (PySem.W.kdv_tup us)).push (PySem.HandSPX.excO C hp.objs.size)).get? (hp.objs.size + 1) = some (PySem.HandSPX.excO C hp.objs.size) := by heap_get
  have I2 := I1.laid (t' := tk) (a := hp.objs.size + 1) (o := exo (hp.objs.size + 1) C none) (h' := (hp.push (PySem.W.kdv_tup us)).push (PySem.HandSPX.excO C hp.objs.size)) kk one (exo_ok hg)
  have r2 : Vals (V.ref (hp.objs.size + 1) :: vs) (Value.ref (hp.objs.size + 1) :: us) := .cons rfl r1
  have hl : (Value.ref (hp.objs.size + 1) :: us).length = ps.length := by
    have z := r2.length
    rw [F1.len _ _ _ _ hq] at z
    exact z.symm
  have hus : us.length ≤ sizeLine := by
    rw [← Paired.length r1, sizeLine_eq]
    omega
  have hb2 : BindsTo ⟨(hp.push (PySem.W.kdv_tup us)).push (PySem.HandSPX.excO C hp.objs.size), g, dr, tk, os⟩ fd ⟨Value.ref (hp.objs.size + 1) :: us, []⟩ (ps.zip (Value.ref (hp.objs.size + 1) :: us)) := by
    have z := hb ⟨(hp.push (PySem.W.kdv_tup us)).push (PySem.HandSPX.excO C hp.objs.size), g, dr, tk, os⟩ (Value.ref (hp.objs.size + 1) :: us) I2.kIn (by rw [List.append_nil]; exact hl)
    rw [List.append_nil] at z
    exact z
  refine wpAny_call (PySem.HandSPX.call_own F.excBase_Exception (fun Y => ownEx_has Y bm hbm) (I1.kIn _ _ hC) (PySem.W.looks_findIn I1.kIn iC) (fun self => PySem.W.bind_fn I1.kIn self tI) hus ?_)
  refine codeAny_mono (F1.run _ X.stack _ _ ⟨Value.ref (hp.objs.size + 1) :: us, []⟩ (Value.ref (hp.objs.size + 1) :: us) _ _ (fun _ _ _ => False) (hr.make C us []) (I2.env0.make C us []) hb2 r2 hq) fun r s' hq2 => ?_
  cases r with
  | error er => exact hx pins σ _ _ er s' I2 hq2
  | ok fl =>
    cases fl with
    | ret u =>
      obtain ⟨v, H2, os2, bare2, un2, hok2, rv, ev, d, fs, ea, ed, hd1, q2⟩ := hq2
      subst ev
      obtain ⟨h2, g2, d2, t2, os3⟩ := s'
      exact ⟨rv, mk_end (raises_own T.isB T.isT) I1 one kk un2 hok2 os2 bare2 ea ed hd1 q2⟩
    | next => exact False.elim hq2
    | brk => exact False.elim hq2
    | cont => exact False.elim hq2
/-- without arguments -/
theorem pmk_err0 {CX : CXT} {x : Str} {C fI : Addr} {k : Nat} {fd : FuncData} {ps : List Str} {sp : Sp} (T : ErrC X.K C) (iC : PySem.W.findIn X.K (.ref C) "__init__" = some (some (.ref fI)))
    (tI : PySem.W.typeIn X.K (.ref fI) = some (.type "function")) (F1 : FnOk X.prog X.w X.K X.mg X.base CX k fI fd ps sp) (hr : Room (k + 1) X.A) (hb : Binds X.K fd ps []) (hx : Passes CX X (fun _ _ _ => False))
    (hg : Gl X x) (hm : X.mg x = some (.ref C)) (hdb : (x == ("__debug__" : Str)) = false := by decide) : PMk X (.Call (.Name x p) [] [] pos) (tErrNew C sp tNil) := by
  intro pins s σ H Q I h
  refine wpAny_Call_Name_kw (ld_glob I hg hm ?_ hdb)
  exact PySem.W.callWith_K0 I.kIn T.kp (err_made (us := []) (vs := []) T iC tI F1 hr hb hx I .nil h)
/-- with arguments -/
theorem pmk_err {CX : CXT} {x : Str} {C fI : Addr} {k : Nat} {fd : FuncData} {ps : List Str} {sp : Sp} (T : ErrC X.K C) (iC : PySem.W.findIn X.K (.ref C) "__init__" = some (some (.ref fI)))
    (tI : PySem.W.typeIn X.K (.ref fI) = some (.type "function")) (F1 : FnOk X.prog X.w X.K X.mg X.base CX k fI fd ps sp) (hr : Room (k + 1) X.A) (hb : Binds X.K fd ps []) (hx : Passes CX X (fun _ _ _ => False))
    (hg : Gl X x) (hm : X.mg x = some (.ref C)) (ha : PA X (e :: es) ta) (hdb : (x == ("__debug__" : Str)) = false := by decide)
    (hs : starEach (e :: es) X.env = (false, eval e X.env) :: starEach es X.env := by rfl) (hpl : (backTo pos (starEach es X.env)).any (·.1) = false := by rfl) :
    PMk X (.Call (.Name x p) (e :: es) [] pos) (tErrNew C sp ta) := by
  intro pins s σ H Q I h
  refine wpAny_Call_Name_kw (ld_glob I hg hm ?_ hdb)
  refine PySem.W.callWith_K (h₀ := X.base) I.ok.mod.kin T.kp (thn (ha.run pos pins s σ H _ I h) fun us s1 ⟨vs, H1, I1, r1, q⟩ => ?_) hs hpl
  exact ⟨I1.kIn, err_made T iC tI F1 hr hb hx I1 r1 q⟩
/-! ### B.m(self, ..), B a class by its name, m a def of it -/
def tByCls (C : Addr) (sp : Sp) (E : XK) (to : TE) (t : TA) : TE := fun σ H Q => to σ H fun x H1 => x = .ref C ∧ t σ H1 fun vs H2 => sp vs H2 Q E
theorem pe_byCls {CX : CXT} {C g : Addr} {mc : Value} {k : Nat} {fd : FuncData} {ps : List Str} {sp : Sp} {E : XK} {m : Str} {pl : Sem Bool} (ho : PE X o to) (r : ClX.CRead X.K C mc) (c : ClX.CVal X.K C mc m (.ref g) (.ref g))
    (kp : PySem.W.keepIn X.K (.ref g) = true) (F : FnOk X.prog X.w X.K X.mg X.base CX k g fd ps sp) (hr : Room k X.A) (hb : Binds X.K fd ps []) (hx : Passes CX X E) (ha : PA X (e :: es) ta)
    (hs : starEach (e :: es) X.env = (false, eval e X.env) :: starEach es X.env := by rfl) (hpl : (backTo pos (starEach es X.env)).any (·.1) = false := by rfl)
    (hc : eval (.Call (.Attribute o m p2) (e :: es) [] pos) X.env = (do
      let ov ← eval o X.env
      standAt p2.atName
      let (f, first) ← holding [ov] (getMethod ov m pl)
      callWith pos f first (backTo pos (starEach (e :: es) X.env)) (backToKw pos (keywordEach [] X.env))) := by rfl) :
    PE X (.Call (.Attribute o m p2) (e :: es) [] pos) (tByCls C sp E to ta) := by
  refine ⟨fun pins s σ H Q I h => ?_⟩
  refine PySem.W.methodCall_KW (pl := pl) (thn (ho.run pins s σ H _ I h) fun u s1 ⟨x, H1, I1, rx, ex, q⟩ => ?_) hc
  subst ex
  obtain rfl : u = Value.ref C := rx
  refine PySem.W.method_cls I1.kIn r.ga (ClX.getcval_ok I1 r c fun s2 I2 => ?_)
  refine PySem.W.callWith_K (h₀ := X.base) I2.ok.mod.kin kp (thn (ha.run pos pins s2 σ H1 _ I2 q) fun us s3 ⟨vs, H2, I3, rv, q2⟩ => ?_) hs hpl
  refine ⟨I3.kIn, run_fn (dvs := []) (ds := []) F hr hb .nil hx I3 rv ?_⟩
  rw [List.append_nil]
  exact q2
/-! ### err.f in the suite of a clause that takes errors of several classes -/
def tErrGet (K : PySem.W.Frag) (a : Addr) (cls : Value) (d : Option Addr) (f : Str) (te : TE) : TE := fun σ H Q => te σ H fun x H1 => x = .ref a ∧
  ∃ (C dd : Addr) (fs : List (Str × V)) (v : V), cls = .ref C ∧ XfC K C ∧ PySem.W.findIn K (.ref C) f = some none ∧ d = some dd ∧ H1 dd = some (.xd fs) ∧ fs.lookup f = some v ∧ Q v H1
theorem pe_errGet {a : Addr} {oe : Obj} {cls : Value} {d : Option Addr} {pn : List (Addr × Obj)} (hz : Zc cls d oe) (hf : ∃ vs, oe.data = .fields vs) (he : PE (X.suite a ((a, oe) :: pn)) e te)
    (hb : attributeBase e f X.env (eval e X.env) = eval e X.env := by rfl) : PE (X.suite a ((a, oe) :: pn)) (.Attribute e f pos) (tErrGet X.K a cls d f te) := by
  refine ⟨fun pins s σ H Q I h => ?_⟩
  refine attr_of hb (thn (he.run pins s σ H _ I h) fun u s1 hh => ?_)
  obtain ⟨x, H1, I1, rx, ex, C, dd, fs, v, ec, T, hno, ed, ea, l, q⟩ := hh
  subst ex
  obtain rfl : u = Value.ref a := rx
  subst ec ed
  obtain ⟨ha, _⟩ := I1.pin (a, oe) (List.mem_append_left _ List.mem_cons_self)
  obtain ⟨vs, hd⟩ := hf
  obtain ⟨mA, hns, hr⟩ := (show ObjOk X.prog X.w H1 s1.heap dd (.xd fs) from I1.hok dd _ ea)
  obtain ⟨od, ho, hl⟩ := lookIn_ns hns
  obtain ⟨u, hu, ru⟩ := RelO.some_of (v := v) (o := mA f) (by rw [← l]; exact hr f)
  have J : PySem.W.InstAt s1.heap a oe C (some od) := ⟨ha, hz.1, by unfold PySem.W.notCls; rw [hd] <;> rfl, by rw [hz.2]; exact ho⟩
  refine HandSPX.exc_get I1.kIn J T.ga T.gg T.exC (PySem.W.findObj_own T.hdC hno rfl (by rw [hl, hu])) (handed_of ru) ?_
  exact ⟨v, H1, I1.tok _, ru, q⟩
end
end TwX

set_option maxRecDepth 100000
set_option maxHeartbeats 4000000
/-! # max(xs, default=n); a local name that holds one of several defs, called where an error of it is awaited -/
namespace TwY
open PySem PySem.Spec PyProof.Rows L2
set_option autoImplicit false
/-- the greatest of a list, or the default -/
def rMaxElse (K : PySem.W.Frag) : List V → List V → Hp → VK → Prop := fun vs zs H Q => ∃ (a : Addr) (ns : List Int) (d : Int), vs = [V.ref a] ∧ zs = [.int d] ∧ SqL K H a (ns.map V.int) ∧
  (ns = [] → Q (.int d) H) ∧ ∀ n r, ns = n :: r → Q (.int (r.foldl max n)) H
section
variable {X : Cx}
theorem alike_ints (ns : List Int) : PySem.W.AlikeAll (ns.map PyData.int) := by
  refine ⟨fun x hx y hy => ?_, fun x hx => ?_⟩
  · obtain ⟨i, _, rfl⟩ := List.mem_map.mp hx
    obtain ⟨j, _, rfl⟩ := List.mem_map.mp hy
    rfl
  · obtain ⟨i, _, rfl⟩ := List.mem_map.mp hx
    exact fun z => by cases z
theorem cr_maxElse (hc : X.calm = true) (hu : X.A.units + 1 < cLine) : CallRK X (.builtin "max") [Str.ofString "default"] (rMaxElse X.K) := by
  intro pins s σ H vs zs us ws Q I r rz h
  obtain ⟨a, ns, d, rfl, rfl, hs, q0, q1⟩ := h
  obtain ⟨its, rv, hl, _⟩ := I.list hs
  rw [Vals.ref1 r]
  cases rz with
  | @cons _ w1 _ wr e1 en =>
    cases en
    obtain ⟨td, rfl⟩ := e1
    refine PySem.W.max_list_default (I.ok.hd hc) hl.isList (ints_readAll s.heap rv.ints) (alike_ints ns) ?_ (fun e h' tk k => ?_) (fun y ys i v h' tk bs e hi hr k => ?_)
    · rw [PyProof.Rows.depthAll_ints]
      exact hu
    · exact ⟨.int d, H, I.kept k, ⟨_, rfl⟩, q0 (List.map_eq_nil_iff.mp e)⟩
    · cases ns with
      | nil => cases e
      | cons n rest =>
        cases e
        rw [PySem.W.maxD_ints] at hr
        cases hr
        exact ⟨.int (rest.foldl max n), H, I.kept k, ⟨_, rfl⟩, q1 n rest rfl⟩
/-- of several defs that a slot may hold, each may let an error out: the promise goes with the address -/
structure HeldX (P : Program) (w : World) (K : PySem.W.Frag) (mg : Str → Option Value) (base : Heap) (k : Nat) (f : Addr) (sp : Sp) : Prop where
  ex : ∃ (fd : FuncData) (ps : List Str), FnOk P w K mg base (L2.CX P w) k f fd ps sp ∧ PySem.W.keepIn K (.ref f) = true ∧ Binds K fd ps []
def tCallE (i : Nat) (S : Addr → Sp → Prop) (E : L2.St → XK) (t : TA) : TE := fun σ H Q => ∃ f sp, σ[i]? = some (some (.ref f)) ∧ S f sp ∧ t σ H fun vs H1 => sp vs H1 Q (E σ)
variable {x : Str} {p pos : Pos} {e : Expr} {es : List Expr} {t : TA} {k i : Nat}
theorem pe_callE {S : Addr → Sp → Prop} {E : L2.St → XK} (A : ∀ f sp, S f sp → HeldX X.prog X.w X.K X.mg X.base k f sp) (hr : Room k X.A) (hN : X.N[i]? = some x) (hv : Vis X.env.scope x)
    (hx : ∀ σ, PassesAt (L2.CX X.prog X.w) X σ (E σ)) (ha : PA X (e :: es) t) (hd1 : (x == ("__debug__" : Str)) = false := by decide) (hd2 : (x == ("__classdict__" : Str)) = false := by decide)
    (he : starEach (e :: es) X.env = (false, eval e X.env) :: starEach es X.env := by rfl) (hpl : (backTo pos (starEach es X.env)).any (·.1) = false := by rfl) :
    PE X (.Call (.Name x p) (e :: es) [] pos) (tCallE i S E t) := by
  refine ⟨fun pins s σ H Q I h => ?_⟩
  obtain ⟨f, sp, hs, hS, ht⟩ := h
  obtain ⟨fd, ps, F, hk, hb⟩ := (A f sp hS).ex
  refine wpAny_Call_Name_kw (thn ((pe_var (pos := p) hN hv hd1 hd2).run pins s σ H (fun v H1 => v = .ref f ∧ H1 = H) I ⟨.ref f, hs, rfl, rfl⟩) fun u s1 ⟨v, H1, I1, r1, q1⟩ => ?_)
  obtain ⟨rfl, rfl⟩ := q1
  cases r1
  refine PySem.W.callWith_K (h₀ := X.base) I.ok.mod.kin hk (thn (ha.run pos pins s1 σ _ _ I1 ht) fun us s2 ⟨vs, H2, I2, r, q⟩ => ?_) he hpl
  exact ⟨I2.kIn, run_fnS F hr hb (hx σ) I2 r q⟩
end
end TwY

set_option maxRecDepth 100000
set_option maxHeartbeats 4000000
namespace Tp
open PySem PySem.Spec PyProof.Rows L2
/-- a def of the text, wherever it stands -/
def DefAt (K : PySem.W.Frag) (x qual : Str) (st : Stmt) (f : Addr) : Prop := ∃ fd, Fun K x qual st f fd
/-- a plain class of the text -/
structure PlainAt (K : PySem.W.Frag) (C : Addr) : Prop where
  cl : Cls K C
  mks : PySem.W.makesIn K C = true
  kp : PySem.W.keepIn K (.ref C) = true
/-- an error's class of the text -/
structure ErrAt (K : PySem.W.Frag) (C : Addr) : Prop where
  er : TwX.ErrC K C
  xf : XfC K C
structure BaseAt (K : PySem.W.Frag) (C f : Addr) : Prop where
  rd : ClX.CRead K C (.type "type")
  vl : ClX.CVal K C (.type "type") "__init__" (.ref f) (.ref f)
def IntAt (K : PySem.W.Frag) (x : Str) (n : Int) : Prop := ∃ t, PySem.W.nsIn K mainGlobals x = some (some (.int n t))
def TupAt (K : PySem.W.Frag) (t : Addr) (vs : List V) : Prop :=
  ∃ (o : Obj) (its : Array Value) (n : Nat), K.lookup t = some o ∧ o.cls = .type "tuple" ∧ o.data = .seq its n ∧ its.size ≤ sizeLine ∧ Vals vs its.toList
theorem TupAt.sq {K : PySem.W.Frag} {t : Addr} {vs : List V} (h : TupAt K t vs) (H : Hp) : SqT K H t vs := .inr h
theorem exm_mk {K : PySem.W.Frag} {C R : Addr} (h1 : PySem.W.subIn K (.ref R) (.type "BaseException") = some true) (h2 : PySem.W.isClsIn K R = true) (h3 : PySem.W.typeIn K (.ref R) = some (.type "type"))
    (h4 : PySem.W.subIn K (.ref C) (.ref R) = some true) : PySem.W.exmOne K (.ref C) (.ref R) = some true := by
  have e1 : (PySem.W.subIn K (.ref R) (.type "BaseException") == some true) = true := by rw [h1] <;> rfl
  have e2 : ((PySem.W.clsIn K R).isSome && PySem.W.typeIn K (.ref R) == some (.type "type")) = true := by
    have h5 : (PySem.W.clsIn K R).isSome = true := h2
    rw [h5, h3] <;> rfl
  show (if (PySem.W.subIn K (.ref R) (.type "BaseException") == some true) = true then
    (if ((PySem.W.clsIn K R).isSome && PySem.W.typeIn K (.ref R) == some (.type "type")) = true then PySem.W.subIn K (.ref C) (.ref R) else none) else none) = some true
  rw [if_pos e1, if_pos e2]
  exact h4
theorem int_mk {K : PySem.W.Frag} {x : Str} {n : Int} {t : Tok} (h : PySem.W.nsIn K mainGlobals x = some (some (.int n t))) : IntAt K x n := ⟨t, h⟩
theorem tup_mk {K : PySem.W.Frag} {t : Addr} {vs : List V} {o : Obj} {its : Array Value} {n : Nat} (h : K.lookup t = some o) (h1 : o.cls = .type "tuple") (h2 : o.data = .seq its n) (h3 : its.size ≤ sizeLine) (h4 : Vals vs its.toList) : TupAt K t vs :=
  ⟨o, its, n, h, h1, h2, h3, h4⟩
theorem errC_mk {K : PySem.W.Frag} {C : Addr} {nm q : Str} {N : Addr} {bs bm : List Value} {sn : List Str} {sub : List Value} {ab : Bool} {col : Option Bool} {dd : Option Addr} {k0 k1 k2 k3 k5 : Option Value}
    (h : K.lookup C = some (excClassObj nm q C N bs bm true sn sub ab col dd k0 k1 k2 k3 k5 "Exception.__new__")) (h2 : TwX.ownEx bm = true)
    (s : PySem.W.findIn K (.ref C) "__setattr__" = some (some (.builtin "object.__setattr__"))) (b : PySem.W.subIn K (.ref C) (.type "BaseException") = some true) (t : PySem.W.typeIn K (.ref C) = some (.type "type")) (k : PySem.W.keepIn K (.ref C) = true) : TwX.ErrC K C :=
  ⟨⟨nm, q, N, bs, bm, sn, sub, ab, col, dd, k0, k1, k2, k3, k5, h, h2⟩, s, b, t, k⟩
/-! ### where the text's parts stand (printed by program) -/
def top (i : Nat) : Stmt := PySem.Challenge.pw_tendwall_s01_answers.main.body.getD i (.Pass ⟨0, 0, 0, 0⟩)
abbrev s_find_walking_time : Stmt := top 10
abbrev s_find_way_on : Stmt := top 11
abbrev s_find_service_sum : Stmt := top 12
abbrev s_find_busy_time : Stmt := top 13
abbrev s_find_longest_own_time : Stmt := top 14
abbrev s_find_cycle_time : Stmt := top 15
abbrev s_find_min_cycle_time : Stmt := top 16
abbrev s_find_wall_order : Stmt := top 17
abbrev s_find_best_tour : Stmt := top 18
abbrev s_find_next_order : Stmt := top 19
abbrev s_count_masks : Stmt := top 21
abbrev s_find_members : Stmt := top 22
abbrev s_find_largest_group : Stmt := top 23
abbrev s_check_position : Stmt := top 30
abbrev s_check_run_time : Stmt := top 31
abbrev s_check_service_time : Stmt := top 32
abbrev s_check_range : Stmt := top 33
abbrev s_find_start_times : Stmt := top 35
abbrev s_find_arrival : Stmt := top 36
abbrev s_is_feasible : Stmt := top 37
abbrev s_find_lowest_terms : Stmt := top 39
abbrev s_find_greatest_divisor : Stmt := top 40
abbrev s_answer_create : Stmt := top 47
abbrev s_answer_add_machine : Stmt := top 48
abbrev s_answer_remove_machine : Stmt := top 49
abbrev s_answer_set_position : Stmt := top 50
abbrev s_answer_set_run_time : Stmt := top 51
abbrev s_answer_set_service_time : Stmt := top 52
abbrev s_answer_min_cycle_time : Stmt := top 53
abbrev s_answer_best_tour : Stmt := top 54
abbrev s_answer_cycle_time : Stmt := top 55
abbrev s_answer_wall_order : Stmt := top 56
abbrev s_answer_start_times : Stmt := top 57
abbrev s_answer_idle_time : Stmt := top 58
abbrev s_answer_utilization : Stmt := top 59
abbrev s_answer_largest_group : Stmt := top 60
abbrev s_answer_best_tour_of : Stmt := top 61
abbrev s_answer_check_schedule : Stmt := top 62
abbrev s_answer_min_cycle_time_if : Stmt := top 63
abbrev s_answer_list_machines : Stmt := top 64
abbrev s_read_given : Stmt := top 66
abbrev s_answer_call : Stmt := top 67
abbrev s_answers : Stmt := top 68
abbrev s_Reader_init : Stmt := inClass (top 1) 0
abbrev s_Reader_at_end : Stmt := inClass (top 1) 1
abbrev s_Reader_take_number : Stmt := inClass (top 1) 2
abbrev s_Reader_take_row : Stmt := inClass (top 1) 3
abbrev s_Refusal_init : Stmt := inClass (top 3) 0
abbrev s_NoInstance_init : Stmt := inClass (top 4) 0
abbrev s_NoSuchMachine_init : Stmt := inClass (top 5) 0
abbrev s_BadParameter_init : Stmt := inClass (top 6) 0
abbrev s_TooManyMachines_init : Stmt := inClass (top 7) 0
abbrev s_NoMachines_init : Stmt := inClass (top 8) 0
abbrev s_Machine_init : Stmt := inClass (top 29) 0
abbrev s_Machine_own_time : Stmt := inClass (top 29) 1
abbrev s_Machine_distance_to : Stmt := inClass (top 29) 2
abbrev s_Wall_init : Stmt := inClass (top 44) 0
abbrev s_Wall_add_machine : Stmt := inClass (top 44) 1
abbrev s_Wall_remove_machine : Stmt := inClass (top 44) 2
abbrev s_Wall_set_position : Stmt := inClass (top 44) 3
abbrev s_Wall_set_run_time : Stmt := inClass (top 44) 4
abbrev s_Wall_set_service_time : Stmt := inClass (top 44) 5
abbrev s_Wall_min_cycle_time : Stmt := inClass (top 44) 6
abbrev s_Wall_best_tour : Stmt := inClass (top 44) 7
abbrev s_Wall_cycle_time : Stmt := inClass (top 44) 8
abbrev s_Wall_busy_time : Stmt := inClass (top 44) 9
abbrev s_Wall_walking_time : Stmt := inClass (top 44) 10
abbrev s_Wall_wall_order : Stmt := inClass (top 44) 11
abbrev s_Wall_start_times : Stmt := inClass (top 44) 12
abbrev s_Wall_idle_time : Stmt := inClass (top 44) 13
abbrev s_Wall_utilization : Stmt := inClass (top 44) 14
abbrev s_Wall_largest_group : Stmt := inClass (top 44) 15
abbrev s_Wall_best_tour_of : Stmt := inClass (top 44) 16
abbrev s_Wall_check_schedule : Stmt := inClass (top 44) 17
abbrev s_Wall_min_cycle_time_if : Stmt := inClass (top 44) 18
abbrev s_Wall_all_members : Stmt := inClass (top 44) 19
abbrev s_Wall_check_machine : Stmt := inClass (top 44) 20
abbrev s_Wall_check_tour : Stmt := inClass (top 44) 21
abbrev s_Wall_has_machine : Stmt := inClass (top 44) 22
/-- the addresses -/
structure Ad where
  f_find_walking_time : Addr
  f_find_way_on : Addr
  f_find_service_sum : Addr
  f_find_busy_time : Addr
  f_find_longest_own_time : Addr
  f_find_cycle_time : Addr
  f_find_min_cycle_time : Addr
  f_find_wall_order : Addr
  f_find_best_tour : Addr
  f_find_next_order : Addr
  f_count_masks : Addr
  f_find_members : Addr
  f_find_largest_group : Addr
  f_check_position : Addr
  f_check_run_time : Addr
  f_check_service_time : Addr
  f_check_range : Addr
  f_find_start_times : Addr
  f_find_arrival : Addr
  f_is_feasible : Addr
  f_find_lowest_terms : Addr
  f_find_greatest_divisor : Addr
  f_answer_create : Addr
  f_answer_add_machine : Addr
  f_answer_remove_machine : Addr
  f_answer_set_position : Addr
  f_answer_set_run_time : Addr
  f_answer_set_service_time : Addr
  f_answer_min_cycle_time : Addr
  f_answer_best_tour : Addr
  f_answer_cycle_time : Addr
  f_answer_wall_order : Addr
  f_answer_start_times : Addr
  f_answer_idle_time : Addr
  f_answer_utilization : Addr
  f_answer_largest_group : Addr
  f_answer_best_tour_of : Addr
  f_answer_check_schedule : Addr
  f_answer_min_cycle_time_if : Addr
  f_answer_list_machines : Addr
  f_read_given : Addr
  f_answer_call : Addr
  f_answers : Addr
  c_Reader : Addr
  f_Reader_init : Addr
  f_Reader_at_end : Addr
  f_Reader_take_number : Addr
  f_Reader_take_row : Addr
  c_Refusal : Addr
  f_Refusal_init : Addr
  c_NoInstance : Addr
  f_NoInstance_init : Addr
  c_NoSuchMachine : Addr
  f_NoSuchMachine_init : Addr
  c_BadParameter : Addr
  f_BadParameter_init : Addr
  c_TooManyMachines : Addr
  f_TooManyMachines_init : Addr
  c_NoMachines : Addr
  f_NoMachines_init : Addr
  c_Machine : Addr
  f_Machine_init : Addr
  f_Machine_own_time : Addr
  f_Machine_distance_to : Addr
  c_Wall : Addr
  f_Wall_init : Addr
  f_Wall_add_machine : Addr
  f_Wall_remove_machine : Addr
  f_Wall_set_position : Addr
  f_Wall_set_run_time : Addr
  f_Wall_set_service_time : Addr
  f_Wall_min_cycle_time : Addr
  f_Wall_best_tour : Addr
  f_Wall_cycle_time : Addr
  f_Wall_busy_time : Addr
  f_Wall_walking_time : Addr
  f_Wall_wall_order : Addr
  f_Wall_start_times : Addr
  f_Wall_idle_time : Addr
  f_Wall_utilization : Addr
  f_Wall_largest_group : Addr
  f_Wall_best_tour_of : Addr
  f_Wall_check_schedule : Addr
  f_Wall_min_cycle_time_if : Addr
  f_Wall_all_members : Addr
  f_Wall_check_machine : Addr
  f_Wall_check_tour : Addr
  f_Wall_has_machine : Addr
  t_CALLS : Addr
  t_CALLS_0 : Addr
  t_CALLS_1 : Addr
  t_CALLS_2 : Addr
  t_CALLS_3 : Addr
  t_CALLS_4 : Addr
  t_CALLS_5 : Addr
  t_CALLS_6 : Addr
  t_CALLS_7 : Addr
  t_CALLS_8 : Addr
  t_CALLS_9 : Addr
  t_CALLS_10 : Addr
  t_CALLS_11 : Addr
  t_CALLS_12 : Addr
  t_CALLS_13 : Addr
  t_CALLS_14 : Addr
  t_CALLS_15 : Addr
  t_CALLS_16 : Addr
  t_CALLS_17 : Addr
/-- what the top has written -/
structure Raw (K : PySem.W.Frag) (a : Ad) : Prop where
  n_find_walking_time : PySem.W.nsIn K mainGlobals "find_walking_time" = some (some (.ref a.f_find_walking_time))
  d_find_walking_time : DefAt K "find_walking_time" "find_walking_time" s_find_walking_time a.f_find_walking_time
  n_find_way_on : PySem.W.nsIn K mainGlobals "find_way_on" = some (some (.ref a.f_find_way_on))
  d_find_way_on : DefAt K "find_way_on" "find_way_on" s_find_way_on a.f_find_way_on
  n_find_service_sum : PySem.W.nsIn K mainGlobals "find_service_sum" = some (some (.ref a.f_find_service_sum))
  d_find_service_sum : DefAt K "find_service_sum" "find_service_sum" s_find_service_sum a.f_find_service_sum
  n_find_busy_time : PySem.W.nsIn K mainGlobals "find_busy_time" = some (some (.ref a.f_find_busy_time))
  d_find_busy_time : DefAt K "find_busy_time" "find_busy_time" s_find_busy_time a.f_find_busy_time
  n_find_longest_own_time : PySem.W.nsIn K mainGlobals "find_longest_own_time" = some (some (.ref a.f_find_longest_own_time))
  d_find_longest_own_time : DefAt K "find_longest_own_time" "find_longest_own_time" s_find_longest_own_time a.f_find_longest_own_time
  n_find_cycle_time : PySem.W.nsIn K mainGlobals "find_cycle_time" = some (some (.ref a.f_find_cycle_time))
  d_find_cycle_time : DefAt K "find_cycle_time" "find_cycle_time" s_find_cycle_time a.f_find_cycle_time
  n_find_min_cycle_time : PySem.W.nsIn K mainGlobals "find_min_cycle_time" = some (some (.ref a.f_find_min_cycle_time))
  d_find_min_cycle_time : DefAt K "find_min_cycle_time" "find_min_cycle_time" s_find_min_cycle_time a.f_find_min_cycle_time
  n_find_wall_order : PySem.W.nsIn K mainGlobals "find_wall_order" = some (some (.ref a.f_find_wall_order))
  d_find_wall_order : DefAt K "find_wall_order" "find_wall_order" s_find_wall_order a.f_find_wall_order
  n_find_best_tour : PySem.W.nsIn K mainGlobals "find_best_tour" = some (some (.ref a.f_find_best_tour))
  d_find_best_tour : DefAt K "find_best_tour" "find_best_tour" s_find_best_tour a.f_find_best_tour
  n_find_next_order : PySem.W.nsIn K mainGlobals "find_next_order" = some (some (.ref a.f_find_next_order))
  d_find_next_order : DefAt K "find_next_order" "find_next_order" s_find_next_order a.f_find_next_order
  n_count_masks : PySem.W.nsIn K mainGlobals "count_masks" = some (some (.ref a.f_count_masks))
  d_count_masks : DefAt K "count_masks" "count_masks" s_count_masks a.f_count_masks
  n_find_members : PySem.W.nsIn K mainGlobals "find_members" = some (some (.ref a.f_find_members))
  d_find_members : DefAt K "find_members" "find_members" s_find_members a.f_find_members
  n_find_largest_group : PySem.W.nsIn K mainGlobals "find_largest_group" = some (some (.ref a.f_find_largest_group))
  d_find_largest_group : DefAt K "find_largest_group" "find_largest_group" s_find_largest_group a.f_find_largest_group
  n_check_position : PySem.W.nsIn K mainGlobals "check_position" = some (some (.ref a.f_check_position))
  d_check_position : DefAt K "check_position" "check_position" s_check_position a.f_check_position
  n_check_run_time : PySem.W.nsIn K mainGlobals "check_run_time" = some (some (.ref a.f_check_run_time))
  d_check_run_time : DefAt K "check_run_time" "check_run_time" s_check_run_time a.f_check_run_time
  n_check_service_time : PySem.W.nsIn K mainGlobals "check_service_time" = some (some (.ref a.f_check_service_time))
  d_check_service_time : DefAt K "check_service_time" "check_service_time" s_check_service_time a.f_check_service_time
  n_check_range : PySem.W.nsIn K mainGlobals "check_range" = some (some (.ref a.f_check_range))
  d_check_range : DefAt K "check_range" "check_range" s_check_range a.f_check_range
  n_find_start_times : PySem.W.nsIn K mainGlobals "find_start_times" = some (some (.ref a.f_find_start_times))
  d_find_start_times : DefAt K "find_start_times" "find_start_times" s_find_start_times a.f_find_start_times
  n_find_arrival : PySem.W.nsIn K mainGlobals "find_arrival" = some (some (.ref a.f_find_arrival))
  d_find_arrival : DefAt K "find_arrival" "find_arrival" s_find_arrival a.f_find_arrival
  n_is_feasible : PySem.W.nsIn K mainGlobals "is_feasible" = some (some (.ref a.f_is_feasible))
  d_is_feasible : DefAt K "is_feasible" "is_feasible" s_is_feasible a.f_is_feasible
  n_find_lowest_terms : PySem.W.nsIn K mainGlobals "find_lowest_terms" = some (some (.ref a.f_find_lowest_terms))
  d_find_lowest_terms : DefAt K "find_lowest_terms" "find_lowest_terms" s_find_lowest_terms a.f_find_lowest_terms
  n_find_greatest_divisor : PySem.W.nsIn K mainGlobals "find_greatest_divisor" = some (some (.ref a.f_find_greatest_divisor))
  d_find_greatest_divisor : DefAt K "find_greatest_divisor" "find_greatest_divisor" s_find_greatest_divisor a.f_find_greatest_divisor
  n_answer_create : PySem.W.nsIn K mainGlobals "answer_create" = some (some (.ref a.f_answer_create))
  d_answer_create : DefAt K "answer_create" "answer_create" s_answer_create a.f_answer_create
  n_answer_add_machine : PySem.W.nsIn K mainGlobals "answer_add_machine" = some (some (.ref a.f_answer_add_machine))
  d_answer_add_machine : DefAt K "answer_add_machine" "answer_add_machine" s_answer_add_machine a.f_answer_add_machine
  n_answer_remove_machine : PySem.W.nsIn K mainGlobals "answer_remove_machine" = some (some (.ref a.f_answer_remove_machine))
  d_answer_remove_machine : DefAt K "answer_remove_machine" "answer_remove_machine" s_answer_remove_machine a.f_answer_remove_machine
  n_answer_set_position : PySem.W.nsIn K mainGlobals "answer_set_position" = some (some (.ref a.f_answer_set_position))
  d_answer_set_position : DefAt K "answer_set_position" "answer_set_position" s_answer_set_position a.f_answer_set_position
  n_answer_set_run_time : PySem.W.nsIn K mainGlobals "answer_set_run_time" = some (some (.ref a.f_answer_set_run_time))
  d_answer_set_run_time : DefAt K "answer_set_run_time" "answer_set_run_time" s_answer_set_run_time a.f_answer_set_run_time
  n_answer_set_service_time : PySem.W.nsIn K mainGlobals "answer_set_service_time" = some (some (.ref a.f_answer_set_service_time))
  d_answer_set_service_time : DefAt K "answer_set_service_time" "answer_set_service_time" s_answer_set_service_time a.f_answer_set_service_time
  n_answer_min_cycle_time : PySem.W.nsIn K mainGlobals "answer_min_cycle_time" = some (some (.ref a.f_answer_min_cycle_time))
  d_answer_min_cycle_time : DefAt K "answer_min_cycle_time" "answer_min_cycle_time" s_answer_min_cycle_time a.f_answer_min_cycle_time
  n_answer_best_tour : PySem.W.nsIn K mainGlobals "answer_best_tour" = some (some (.ref a.f_answer_best_tour))
  d_answer_best_tour : DefAt K "answer_best_tour" "answer_best_tour" s_answer_best_tour a.f_answer_best_tour
  n_answer_cycle_time : PySem.W.nsIn K mainGlobals "answer_cycle_time" = some (some (.ref a.f_answer_cycle_time))
  d_answer_cycle_time : DefAt K "answer_cycle_time" "answer_cycle_time" s_answer_cycle_time a.f_answer_cycle_time
  n_answer_wall_order : PySem.W.nsIn K mainGlobals "answer_wall_order" = some (some (.ref a.f_answer_wall_order))
  d_answer_wall_order : DefAt K "answer_wall_order" "answer_wall_order" s_answer_wall_order a.f_answer_wall_order
  n_answer_start_times : PySem.W.nsIn K mainGlobals "answer_start_times" = some (some (.ref a.f_answer_start_times))
  d_answer_start_times : DefAt K "answer_start_times" "answer_start_times" s_answer_start_times a.f_answer_start_times
  n_answer_idle_time : PySem.W.nsIn K mainGlobals "answer_idle_time" = some (some (.ref a.f_answer_idle_time))
  d_answer_idle_time : DefAt K "answer_idle_time" "answer_idle_time" s_answer_idle_time a.f_answer_idle_time
  n_answer_utilization : PySem.W.nsIn K mainGlobals "answer_utilization" = some (some (.ref a.f_answer_utilization))
  d_answer_utilization : DefAt K "answer_utilization" "answer_utilization" s_answer_utilization a.f_answer_utilization
  n_answer_largest_group : PySem.W.nsIn K mainGlobals "answer_largest_group" = some (some (.ref a.f_answer_largest_group))
  d_answer_largest_group : DefAt K "answer_largest_group" "answer_largest_group" s_answer_largest_group a.f_answer_largest_group
  n_answer_best_tour_of : PySem.W.nsIn K mainGlobals "answer_best_tour_of" = some (some (.ref a.f_answer_best_tour_of))
  d_answer_best_tour_of : DefAt K "answer_best_tour_of" "answer_best_tour_of" s_answer_best_tour_of a.f_answer_best_tour_of
  n_answer_check_schedule : PySem.W.nsIn K mainGlobals "answer_check_schedule" = some (some (.ref a.f_answer_check_schedule))
  d_answer_check_schedule : DefAt K "answer_check_schedule" "answer_check_schedule" s_answer_check_schedule a.f_answer_check_schedule
  n_answer_min_cycle_time_if : PySem.W.nsIn K mainGlobals "answer_min_cycle_time_if" = some (some (.ref a.f_answer_min_cycle_time_if))
  d_answer_min_cycle_time_if : DefAt K "answer_min_cycle_time_if" "answer_min_cycle_time_if" s_answer_min_cycle_time_if a.f_answer_min_cycle_time_if
  n_answer_list_machines : PySem.W.nsIn K mainGlobals "answer_list_machines" = some (some (.ref a.f_answer_list_machines))
  d_answer_list_machines : DefAt K "answer_list_machines" "answer_list_machines" s_answer_list_machines a.f_answer_list_machines
  n_read_given : PySem.W.nsIn K mainGlobals "read_given" = some (some (.ref a.f_read_given))
  d_read_given : DefAt K "read_given" "read_given" s_read_given a.f_read_given
  n_answer_call : PySem.W.nsIn K mainGlobals "answer_call" = some (some (.ref a.f_answer_call))
  d_answer_call : DefAt K "answer_call" "answer_call" s_answer_call a.f_answer_call
  n_answers : PySem.W.nsIn K mainGlobals "answers" = some (some (.ref a.f_answers))
  d_answers : DefAt K "answers" "answers" s_answers a.f_answers
  n_Reader : PySem.W.nsIn K mainGlobals "Reader" = some (some (.ref a.c_Reader))
  m_Reader_init : PySem.W.findIn K (.ref a.c_Reader) "__init__" = some (some (.ref a.f_Reader_init))
  y_Reader_init : PySem.W.typeIn K (.ref a.f_Reader_init) = some (.type "function")
  d_Reader_init : DefAt K "__init__" "Reader.__init__" s_Reader_init a.f_Reader_init
  m_Reader_at_end : PySem.W.findIn K (.ref a.c_Reader) "at_end" = some (some (.ref a.f_Reader_at_end))
  y_Reader_at_end : PySem.W.typeIn K (.ref a.f_Reader_at_end) = some (.type "function")
  d_Reader_at_end : DefAt K "at_end" "Reader.at_end" s_Reader_at_end a.f_Reader_at_end
  m_Reader_take_number : PySem.W.findIn K (.ref a.c_Reader) "take_number" = some (some (.ref a.f_Reader_take_number))
  y_Reader_take_number : PySem.W.typeIn K (.ref a.f_Reader_take_number) = some (.type "function")
  d_Reader_take_number : DefAt K "take_number" "Reader.take_number" s_Reader_take_number a.f_Reader_take_number
  m_Reader_take_row : PySem.W.findIn K (.ref a.c_Reader) "take_row" = some (some (.ref a.f_Reader_take_row))
  y_Reader_take_row : PySem.W.typeIn K (.ref a.f_Reader_take_row) = some (.type "function")
  d_Reader_take_row : DefAt K "take_row" "Reader.take_row" s_Reader_take_row a.f_Reader_take_row
  c_Reader : PlainAt K a.c_Reader
  a_Reader_numbers : PySem.W.findIn K (.ref a.c_Reader) "numbers" = some none
  a_Reader_place : PySem.W.findIn K (.ref a.c_Reader) "place" = some none
  n_Refusal : PySem.W.nsIn K mainGlobals "Refusal" = some (some (.ref a.c_Refusal))
  m_Refusal_init : PySem.W.findIn K (.ref a.c_Refusal) "__init__" = some (some (.ref a.f_Refusal_init))
  y_Refusal_init : PySem.W.typeIn K (.ref a.f_Refusal_init) = some (.type "function")
  d_Refusal_init : DefAt K "__init__" "Refusal.__init__" s_Refusal_init a.f_Refusal_init
  e_Refusal : ErrAt K a.c_Refusal
  x_Refusal : PySem.W.exmOne K (.ref a.c_Refusal) (.ref a.c_Refusal) = some true
  g_Refusal : PySem.W.findIn K (.ref a.c_Refusal) "code" = some none
  b_Refusal : BaseAt K a.c_Refusal a.f_Refusal_init
  n_NoInstance : PySem.W.nsIn K mainGlobals "NoInstance" = some (some (.ref a.c_NoInstance))
  m_NoInstance_init : PySem.W.findIn K (.ref a.c_NoInstance) "__init__" = some (some (.ref a.f_NoInstance_init))
  y_NoInstance_init : PySem.W.typeIn K (.ref a.f_NoInstance_init) = some (.type "function")
  d_NoInstance_init : DefAt K "__init__" "NoInstance.__init__" s_NoInstance_init a.f_NoInstance_init
  e_NoInstance : ErrAt K a.c_NoInstance
  x_NoInstance : PySem.W.exmOne K (.ref a.c_NoInstance) (.ref a.c_Refusal) = some true
  g_NoInstance : PySem.W.findIn K (.ref a.c_NoInstance) "code" = some none
  n_NoSuchMachine : PySem.W.nsIn K mainGlobals "NoSuchMachine" = some (some (.ref a.c_NoSuchMachine))
  m_NoSuchMachine_init : PySem.W.findIn K (.ref a.c_NoSuchMachine) "__init__" = some (some (.ref a.f_NoSuchMachine_init))
  y_NoSuchMachine_init : PySem.W.typeIn K (.ref a.f_NoSuchMachine_init) = some (.type "function")
  d_NoSuchMachine_init : DefAt K "__init__" "NoSuchMachine.__init__" s_NoSuchMachine_init a.f_NoSuchMachine_init
  e_NoSuchMachine : ErrAt K a.c_NoSuchMachine
  x_NoSuchMachine : PySem.W.exmOne K (.ref a.c_NoSuchMachine) (.ref a.c_Refusal) = some true
  g_NoSuchMachine : PySem.W.findIn K (.ref a.c_NoSuchMachine) "code" = some none
  n_BadParameter : PySem.W.nsIn K mainGlobals "BadParameter" = some (some (.ref a.c_BadParameter))
  m_BadParameter_init : PySem.W.findIn K (.ref a.c_BadParameter) "__init__" = some (some (.ref a.f_BadParameter_init))
  y_BadParameter_init : PySem.W.typeIn K (.ref a.f_BadParameter_init) = some (.type "function")
  d_BadParameter_init : DefAt K "__init__" "BadParameter.__init__" s_BadParameter_init a.f_BadParameter_init
  e_BadParameter : ErrAt K a.c_BadParameter
  x_BadParameter : PySem.W.exmOne K (.ref a.c_BadParameter) (.ref a.c_Refusal) = some true
  g_BadParameter : PySem.W.findIn K (.ref a.c_BadParameter) "code" = some none
  n_TooManyMachines : PySem.W.nsIn K mainGlobals "TooManyMachines" = some (some (.ref a.c_TooManyMachines))
  m_TooManyMachines_init : PySem.W.findIn K (.ref a.c_TooManyMachines) "__init__" = some (some (.ref a.f_TooManyMachines_init))
  y_TooManyMachines_init : PySem.W.typeIn K (.ref a.f_TooManyMachines_init) = some (.type "function")
  d_TooManyMachines_init : DefAt K "__init__" "TooManyMachines.__init__" s_TooManyMachines_init a.f_TooManyMachines_init
  e_TooManyMachines : ErrAt K a.c_TooManyMachines
  x_TooManyMachines : PySem.W.exmOne K (.ref a.c_TooManyMachines) (.ref a.c_Refusal) = some true
  g_TooManyMachines : PySem.W.findIn K (.ref a.c_TooManyMachines) "code" = some none
  n_NoMachines : PySem.W.nsIn K mainGlobals "NoMachines" = some (some (.ref a.c_NoMachines))
  m_NoMachines_init : PySem.W.findIn K (.ref a.c_NoMachines) "__init__" = some (some (.ref a.f_NoMachines_init))
  y_NoMachines_init : PySem.W.typeIn K (.ref a.f_NoMachines_init) = some (.type "function")
  d_NoMachines_init : DefAt K "__init__" "NoMachines.__init__" s_NoMachines_init a.f_NoMachines_init
  e_NoMachines : ErrAt K a.c_NoMachines
  x_NoMachines : PySem.W.exmOne K (.ref a.c_NoMachines) (.ref a.c_Refusal) = some true
  g_NoMachines : PySem.W.findIn K (.ref a.c_NoMachines) "code" = some none
  n_Machine : PySem.W.nsIn K mainGlobals "Machine" = some (some (.ref a.c_Machine))
  m_Machine_init : PySem.W.findIn K (.ref a.c_Machine) "__init__" = some (some (.ref a.f_Machine_init))
  y_Machine_init : PySem.W.typeIn K (.ref a.f_Machine_init) = some (.type "function")
  d_Machine_init : DefAt K "__init__" "Machine.__init__" s_Machine_init a.f_Machine_init
  m_Machine_own_time : PySem.W.findIn K (.ref a.c_Machine) "own_time" = some (some (.ref a.f_Machine_own_time))
  y_Machine_own_time : PySem.W.typeIn K (.ref a.f_Machine_own_time) = some (.type "function")
  d_Machine_own_time : DefAt K "own_time" "Machine.own_time" s_Machine_own_time a.f_Machine_own_time
  m_Machine_distance_to : PySem.W.findIn K (.ref a.c_Machine) "distance_to" = some (some (.ref a.f_Machine_distance_to))
  y_Machine_distance_to : PySem.W.typeIn K (.ref a.f_Machine_distance_to) = some (.type "function")
  d_Machine_distance_to : DefAt K "distance_to" "Machine.distance_to" s_Machine_distance_to a.f_Machine_distance_to
  c_Machine : PlainAt K a.c_Machine
  a_Machine_position : PySem.W.findIn K (.ref a.c_Machine) "position" = some none
  a_Machine_run_time : PySem.W.findIn K (.ref a.c_Machine) "run_time" = some none
  a_Machine_service_time : PySem.W.findIn K (.ref a.c_Machine) "service_time" = some none
  n_Wall : PySem.W.nsIn K mainGlobals "Wall" = some (some (.ref a.c_Wall))
  m_Wall_init : PySem.W.findIn K (.ref a.c_Wall) "__init__" = some (some (.ref a.f_Wall_init))
  y_Wall_init : PySem.W.typeIn K (.ref a.f_Wall_init) = some (.type "function")
  d_Wall_init : DefAt K "__init__" "Wall.__init__" s_Wall_init a.f_Wall_init
  m_Wall_add_machine : PySem.W.findIn K (.ref a.c_Wall) "add_machine" = some (some (.ref a.f_Wall_add_machine))
  y_Wall_add_machine : PySem.W.typeIn K (.ref a.f_Wall_add_machine) = some (.type "function")
  d_Wall_add_machine : DefAt K "add_machine" "Wall.add_machine" s_Wall_add_machine a.f_Wall_add_machine
  m_Wall_remove_machine : PySem.W.findIn K (.ref a.c_Wall) "remove_machine" = some (some (.ref a.f_Wall_remove_machine))
  y_Wall_remove_machine : PySem.W.typeIn K (.ref a.f_Wall_remove_machine) = some (.type "function")
  d_Wall_remove_machine : DefAt K "remove_machine" "Wall.remove_machine" s_Wall_remove_machine a.f_Wall_remove_machine
  m_Wall_set_position : PySem.W.findIn K (.ref a.c_Wall) "set_position" = some (some (.ref a.f_Wall_set_position))
  y_Wall_set_position : PySem.W.typeIn K (.ref a.f_Wall_set_position) = some (.type "function")
  d_Wall_set_position : DefAt K "set_position" "Wall.set_position" s_Wall_set_position a.f_Wall_set_position
  m_Wall_set_run_time : PySem.W.findIn K (.ref a.c_Wall) "set_run_time" = some (some (.ref a.f_Wall_set_run_time))
  y_Wall_set_run_time : PySem.W.typeIn K (.ref a.f_Wall_set_run_time) = some (.type "function")
  d_Wall_set_run_time : DefAt K "set_run_time" "Wall.set_run_time" s_Wall_set_run_time a.f_Wall_set_run_time
  m_Wall_set_service_time : PySem.W.findIn K (.ref a.c_Wall) "set_service_time" = some (some (.ref a.f_Wall_set_service_time))
  y_Wall_set_service_time : PySem.W.typeIn K (.ref a.f_Wall_set_service_time) = some (.type "function")
  d_Wall_set_service_time : DefAt K "set_service_time" "Wall.set_service_time" s_Wall_set_service_time a.f_Wall_set_service_time
  m_Wall_min_cycle_time : PySem.W.findIn K (.ref a.c_Wall) "min_cycle_time" = some (some (.ref a.f_Wall_min_cycle_time))
  y_Wall_min_cycle_time : PySem.W.typeIn K (.ref a.f_Wall_min_cycle_time) = some (.type "function")
  d_Wall_min_cycle_time : DefAt K "min_cycle_time" "Wall.min_cycle_time" s_Wall_min_cycle_time a.f_Wall_min_cycle_time
  m_Wall_best_tour : PySem.W.findIn K (.ref a.c_Wall) "best_tour" = some (some (.ref a.f_Wall_best_tour))
  y_Wall_best_tour : PySem.W.typeIn K (.ref a.f_Wall_best_tour) = some (.type "function")
  d_Wall_best_tour : DefAt K "best_tour" "Wall.best_tour" s_Wall_best_tour a.f_Wall_best_tour
  m_Wall_cycle_time : PySem.W.findIn K (.ref a.c_Wall) "cycle_time" = some (some (.ref a.f_Wall_cycle_time))
  y_Wall_cycle_time : PySem.W.typeIn K (.ref a.f_Wall_cycle_time) = some (.type "function")
  d_Wall_cycle_time : DefAt K "cycle_time" "Wall.cycle_time" s_Wall_cycle_time a.f_Wall_cycle_time
  m_Wall_busy_time : PySem.W.findIn K (.ref a.c_Wall) "busy_time" = some (some (.ref a.f_Wall_busy_time))
  y_Wall_busy_time : PySem.W.typeIn K (.ref a.f_Wall_busy_time) = some (.type "function")
  d_Wall_busy_time : DefAt K "busy_time" "Wall.busy_time" s_Wall_busy_time a.f_Wall_busy_time
  m_Wall_walking_time : PySem.W.findIn K (.ref a.c_Wall) "walking_time" = some (some (.ref a.f_Wall_walking_time))
  y_Wall_walking_time : PySem.W.typeIn K (.ref a.f_Wall_walking_time) = some (.type "function")
  d_Wall_walking_time : DefAt K "walking_time" "Wall.walking_time" s_Wall_walking_time a.f_Wall_walking_time
  m_Wall_wall_order : PySem.W.findIn K (.ref a.c_Wall) "wall_order" = some (some (.ref a.f_Wall_wall_order))
  y_Wall_wall_order : PySem.W.typeIn K (.ref a.f_Wall_wall_order) = some (.type "function")
  d_Wall_wall_order : DefAt K "wall_order" "Wall.wall_order" s_Wall_wall_order a.f_Wall_wall_order
  m_Wall_start_times : PySem.W.findIn K (.ref a.c_Wall) "start_times" = some (some (.ref a.f_Wall_start_times))
  y_Wall_start_times : PySem.W.typeIn K (.ref a.f_Wall_start_times) = some (.type "function")
  d_Wall_start_times : DefAt K "start_times" "Wall.start_times" s_Wall_start_times a.f_Wall_start_times
  m_Wall_idle_time : PySem.W.findIn K (.ref a.c_Wall) "idle_time" = some (some (.ref a.f_Wall_idle_time))
  y_Wall_idle_time : PySem.W.typeIn K (.ref a.f_Wall_idle_time) = some (.type "function")
  d_Wall_idle_time : DefAt K "idle_time" "Wall.idle_time" s_Wall_idle_time a.f_Wall_idle_time
  m_Wall_utilization : PySem.W.findIn K (.ref a.c_Wall) "utilization" = some (some (.ref a.f_Wall_utilization))
  y_Wall_utilization : PySem.W.typeIn K (.ref a.f_Wall_utilization) = some (.type "function")
  d_Wall_utilization : DefAt K "utilization" "Wall.utilization" s_Wall_utilization a.f_Wall_utilization
  m_Wall_largest_group : PySem.W.findIn K (.ref a.c_Wall) "largest_group" = some (some (.ref a.f_Wall_largest_group))
  y_Wall_largest_group : PySem.W.typeIn K (.ref a.f_Wall_largest_group) = some (.type "function")
  d_Wall_largest_group : DefAt K "largest_group" "Wall.largest_group" s_Wall_largest_group a.f_Wall_largest_group
  m_Wall_best_tour_of : PySem.W.findIn K (.ref a.c_Wall) "best_tour_of" = some (some (.ref a.f_Wall_best_tour_of))
  y_Wall_best_tour_of : PySem.W.typeIn K (.ref a.f_Wall_best_tour_of) = some (.type "function")
  d_Wall_best_tour_of : DefAt K "best_tour_of" "Wall.best_tour_of" s_Wall_best_tour_of a.f_Wall_best_tour_of
  m_Wall_check_schedule : PySem.W.findIn K (.ref a.c_Wall) "check_schedule" = some (some (.ref a.f_Wall_check_schedule))
  y_Wall_check_schedule : PySem.W.typeIn K (.ref a.f_Wall_check_schedule) = some (.type "function")
  d_Wall_check_schedule : DefAt K "check_schedule" "Wall.check_schedule" s_Wall_check_schedule a.f_Wall_check_schedule
  m_Wall_min_cycle_time_if : PySem.W.findIn K (.ref a.c_Wall) "min_cycle_time_if" = some (some (.ref a.f_Wall_min_cycle_time_if))
  y_Wall_min_cycle_time_if : PySem.W.typeIn K (.ref a.f_Wall_min_cycle_time_if) = some (.type "function")
  d_Wall_min_cycle_time_if : DefAt K "min_cycle_time_if" "Wall.min_cycle_time_if" s_Wall_min_cycle_time_if a.f_Wall_min_cycle_time_if
  m_Wall_all_members : PySem.W.findIn K (.ref a.c_Wall) "all_members" = some (some (.ref a.f_Wall_all_members))
  y_Wall_all_members : PySem.W.typeIn K (.ref a.f_Wall_all_members) = some (.type "function")
  d_Wall_all_members : DefAt K "all_members" "Wall.all_members" s_Wall_all_members a.f_Wall_all_members
  m_Wall_check_machine : PySem.W.findIn K (.ref a.c_Wall) "check_machine" = some (some (.ref a.f_Wall_check_machine))
  y_Wall_check_machine : PySem.W.typeIn K (.ref a.f_Wall_check_machine) = some (.type "function")
  d_Wall_check_machine : DefAt K "check_machine" "Wall.check_machine" s_Wall_check_machine a.f_Wall_check_machine
  m_Wall_check_tour : PySem.W.findIn K (.ref a.c_Wall) "check_tour" = some (some (.ref a.f_Wall_check_tour))
  y_Wall_check_tour : PySem.W.typeIn K (.ref a.f_Wall_check_tour) = some (.type "function")
  d_Wall_check_tour : DefAt K "check_tour" "Wall.check_tour" s_Wall_check_tour a.f_Wall_check_tour
  m_Wall_has_machine : PySem.W.findIn K (.ref a.c_Wall) "has_machine" = some (some (.ref a.f_Wall_has_machine))
  y_Wall_has_machine : PySem.W.typeIn K (.ref a.f_Wall_has_machine) = some (.type "function")
  d_Wall_has_machine : DefAt K "has_machine" "Wall.has_machine" s_Wall_has_machine a.f_Wall_has_machine
  c_Wall : PlainAt K a.c_Wall
  a_Wall_machines : PySem.W.findIn K (.ref a.c_Wall) "machines" = some none
  v_MOST_POSITION : IntAt K "MOST_POSITION" 99
  v_MOST_RUN_TIME : IntAt K "MOST_RUN_TIME" 99
  v_LEAST_SERVICE_TIME : IntAt K "LEAST_SERVICE_TIME" 1
  v_MOST_SERVICE_TIME : IntAt K "MOST_SERVICE_TIME" 99
  v_MOST_MACHINES : IntAt K "MOST_MACHINES" 6
  v_MOST_SCHEDULE_TIME : IntAt K "MOST_SCHEDULE_TIME" 9999
  v_CREATE : IntAt K "CREATE" 0
  n_CALLS : PySem.W.nsIn K mainGlobals "CALLS" = some (some (.ref a.t_CALLS))
  t_CALLS : TupAt K a.t_CALLS [.ref a.t_CALLS_0, .ref a.t_CALLS_1, .ref a.t_CALLS_2, .ref a.t_CALLS_3, .ref a.t_CALLS_4, .ref a.t_CALLS_5, .ref a.t_CALLS_6, .ref a.t_CALLS_7, .ref a.t_CALLS_8, .ref a.t_CALLS_9, .ref a.t_CALLS_10, .ref a.t_CALLS_11, .ref a.t_CALLS_12, .ref a.t_CALLS_13, .ref a.t_CALLS_14, .ref a.t_CALLS_15, .ref a.t_CALLS_16, .ref a.t_CALLS_17]
  t_CALLS_0 : TupAt K a.t_CALLS_0 [.ref a.f_answer_create, .int 0, .int 0]
  t_CALLS_1 : TupAt K a.t_CALLS_1 [.ref a.f_answer_add_machine, .int 3, .int 0]
  t_CALLS_2 : TupAt K a.t_CALLS_2 [.ref a.f_answer_remove_machine, .int 1, .int 0]
  t_CALLS_3 : TupAt K a.t_CALLS_3 [.ref a.f_answer_set_position, .int 2, .int 0]
  t_CALLS_4 : TupAt K a.t_CALLS_4 [.ref a.f_answer_set_run_time, .int 2, .int 0]
  t_CALLS_5 : TupAt K a.t_CALLS_5 [.ref a.f_answer_set_service_time, .int 2, .int 0]
  t_CALLS_6 : TupAt K a.t_CALLS_6 [.ref a.f_answer_min_cycle_time, .int 0, .int 0]
  t_CALLS_7 : TupAt K a.t_CALLS_7 [.ref a.f_answer_best_tour, .int 0, .int 0]
  t_CALLS_8 : TupAt K a.t_CALLS_8 [.ref a.f_answer_cycle_time, .int 0, .int 1]
  t_CALLS_9 : TupAt K a.t_CALLS_9 [.ref a.f_answer_wall_order, .int 0, .int 0]
  t_CALLS_10 : TupAt K a.t_CALLS_10 [.ref a.f_answer_start_times, .int 0, .int 1]
  t_CALLS_11 : TupAt K a.t_CALLS_11 [.ref a.f_answer_idle_time, .int 1, .int 0]
  t_CALLS_12 : TupAt K a.t_CALLS_12 [.ref a.f_answer_utilization, .int 0, .int 0]
  t_CALLS_13 : TupAt K a.t_CALLS_13 [.ref a.f_answer_largest_group, .int 1, .int 0]
  t_CALLS_14 : TupAt K a.t_CALLS_14 [.ref a.f_answer_best_tour_of, .int 1, .int 0]
  t_CALLS_15 : TupAt K a.t_CALLS_15 [.ref a.f_answer_check_schedule, .int 1, .int 2]
  t_CALLS_16 : TupAt K a.t_CALLS_16 [.ref a.f_answer_min_cycle_time_if, .int 2, .int 0]
  t_CALLS_17 : TupAt K a.t_CALLS_17 [.ref a.f_answer_list_machines, .int 0, .int 0]
  z_abs : PySem.W.nsIn K mainGlobals "abs" = some none
  z_len : PySem.W.nsIn K mainGlobals "len" = some none
  z_list : PySem.W.nsIn K mainGlobals "list" = some none
  z_max : PySem.W.nsIn K mainGlobals "max" = some none
  z_min : PySem.W.nsIn K mainGlobals "min" = some none
  z_range : PySem.W.nsIn K mainGlobals "range" = some none
  z_sorted : PySem.W.nsIn K mainGlobals "sorted" = some none
  z_sum : PySem.W.nsIn K mainGlobals "sum" = some none
/-- all that, address by address (printed by program) -/
theorem raw_mk {K : PySem.W.Frag} {f_find_walking_time f_find_way_on f_find_service_sum f_find_busy_time f_find_longest_own_time f_find_cycle_time f_find_min_cycle_time f_find_wall_order f_find_best_tour f_find_next_order f_count_masks f_find_members f_find_largest_group f_check_position f_check_run_time f_check_service_time f_check_range f_find_start_times f_find_arrival f_is_feasible f_find_lowest_terms f_find_greatest_divisor f_answer_create f_answer_add_machine f_answer_remove_machine f_answer_set_position f_answer_set_run_time f_answer_set_service_time f_answer_min_cycle_time f_answer_best_tour f_answer_cycle_time f_answer_wall_order f_answer_start_times f_answer_idle_time f_answer_utilization f_answer_largest_group f_answer_best_tour_of f_answer_check_schedule f_answer_min_cycle_time_if f_answer_list_machines f_read_given f_answer_call f_answers c_Reader f_Reader_init f_Reader_at_end f_Reader_take_number f_Reader_take_row c_Refusal f_Refusal_init c_NoInstance f_NoInstance_init c_NoSuchMachine f_NoSuchMachine_init c_BadParameter f_BadParameter_init c_TooManyMachines f_TooManyMachines_init c_NoMachines f_NoMachines_init c_Machine f_Machine_init f_Machine_own_time f_Machine_distance_to c_Wall f_Wall_init f_Wall_add_machine f_Wall_remove_machine f_Wall_set_position f_Wall_set_run_time f_Wall_set_service_time f_Wall_min_cycle_time f_Wall_best_tour f_Wall_cycle_time f_Wall_busy_time f_Wall_walking_time f_Wall_wall_order f_Wall_start_times f_Wall_idle_time f_Wall_utilization f_Wall_largest_group f_Wall_best_tour_of f_Wall_check_schedule f_Wall_min_cycle_time_if f_Wall_all_members f_Wall_check_machine f_Wall_check_tour f_Wall_has_machine t_CALLS t_CALLS_0 t_CALLS_1 t_CALLS_2 t_CALLS_3 t_CALLS_4 t_CALLS_5 t_CALLS_6 t_CALLS_7 t_CALLS_8 t_CALLS_9 t_CALLS_10 t_CALLS_11 t_CALLS_12 t_CALLS_13 t_CALLS_14 t_CALLS_15 t_CALLS_16 t_CALLS_17 : Addr}
    (r_n_find_walking_time : PySem.W.nsIn K mainGlobals "find_walking_time" = some (some (.ref f_find_walking_time)))
    (r_d_find_walking_time : DefAt K "find_walking_time" "find_walking_time" s_find_walking_time f_find_walking_time)
    (r_n_find_way_on : PySem.W.nsIn K mainGlobals "find_way_on" = some (some (.ref f_find_way_on)))
    (r_d_find_way_on : DefAt K "find_way_on" "find_way_on" s_find_way_on f_find_way_on)
    (r_n_find_service_sum : PySem.W.nsIn K mainGlobals "find_service_sum" = some (some (.ref f_find_service_sum)))
    (r_d_find_service_sum : DefAt K "find_service_sum" "find_service_sum" s_find_service_sum f_find_service_sum)
    (r_n_find_busy_time : PySem.W.nsIn K mainGlobals "find_busy_time" = some (some (.ref f_find_busy_time)))
    (r_d_find_busy_time : DefAt K "find_busy_time" "find_busy_time" s_find_busy_time f_find_busy_time)
    (r_n_find_longest_own_time : PySem.W.nsIn K mainGlobals "find_longest_own_time" = some (some (.ref f_find_longest_own_time)))
    (r_d_find_longest_own_time : DefAt K "find_longest_own_time" "find_longest_own_time" s_find_longest_own_time f_find_longest_own_time)
    (r_n_find_cycle_time : PySem.W.nsIn K mainGlobals "find_cycle_time" = some (some (.ref f_find_cycle_time)))
    (r_d_find_cycle_time : DefAt K "find_cycle_time" "find_cycle_time" s_find_cycle_time f_find_cycle_time)
    (r_n_find_min_cycle_time : PySem.W.nsIn K mainGlobals "find_min_cycle_time" = some (some (.ref f_find_min_cycle_time)))
    (r_d_find_min_cycle_time : DefAt K "find_min_cycle_time" "find_min_cycle_time" s_find_min_cycle_time f_find_min_cycle_time)
    (r_n_find_wall_order : PySem.W.nsIn K mainGlobals "find_wall_order" = some (some (.ref f_find_wall_order)))
    (r_d_find_wall_order : DefAt K "find_wall_order" "find_wall_order" s_find_wall_order f_find_wall_order)
    (r_n_find_best_tour : PySem.W.nsIn K mainGlobals "find_best_tour" = some (some (.ref f_find_best_tour)))
    (r_d_find_best_tour : DefAt K "find_best_tour" "find_best_tour" s_find_best_tour f_find_best_tour)
    (r_n_find_next_order : PySem.W.nsIn K mainGlobals "find_next_order" = some (some (.ref f_find_next_order)))
    (r_d_find_next_order : DefAt K "find_next_order" "find_next_order" s_find_next_order f_find_next_order)
    (r_n_count_masks : PySem.W.nsIn K mainGlobals "count_masks" = some (some (.ref f_count_masks)))
    (r_d_count_masks : DefAt K "count_masks" "count_masks" s_count_masks f_count_masks)
    (r_n_find_members : PySem.W.nsIn K mainGlobals "find_members" = some (some (.ref f_find_members)))
    (r_d_find_members : DefAt K "find_members" "find_members" s_find_members f_find_members)
    (r_n_find_largest_group : PySem.W.nsIn K mainGlobals "find_largest_group" = some (some (.ref f_find_largest_group)))
    (r_d_find_largest_group : DefAt K "find_largest_group" "find_largest_group" s_find_largest_group f_find_largest_group)
    (r_n_check_position : PySem.W.nsIn K mainGlobals "check_position" = some (some (.ref f_check_position)))
    (r_d_check_position : DefAt K "check_position" "check_position" s_check_position f_check_position)
    (r_n_check_run_time : PySem.W.nsIn K mainGlobals "check_run_time" = some (some (.ref f_check_run_time)))
    (r_d_check_run_time : DefAt K "check_run_time" "check_run_time" s_check_run_time f_check_run_time)
    (r_n_check_service_time : PySem.W.nsIn K mainGlobals "check_service_time" = some (some (.ref f_check_service_time)))
    (r_d_check_service_time : DefAt K "check_service_time" "check_service_time" s_check_service_time f_check_service_time)
    (r_n_check_range : PySem.W.nsIn K mainGlobals "check_range" = some (some (.ref f_check_range)))
    (r_d_check_range : DefAt K "check_range" "check_range" s_check_range f_check_range)
    (r_n_find_start_times : PySem.W.nsIn K mainGlobals "find_start_times" = some (some (.ref f_find_start_times)))
    (r_d_find_start_times : DefAt K "find_start_times" "find_start_times" s_find_start_times f_find_start_times)
    (r_n_find_arrival : PySem.W.nsIn K mainGlobals "find_arrival" = some (some (.ref f_find_arrival)))
    (r_d_find_arrival : DefAt K "find_arrival" "find_arrival" s_find_arrival f_find_arrival)
    (r_n_is_feasible : PySem.W.nsIn K mainGlobals "is_feasible" = some (some (.ref f_is_feasible)))
    (r_d_is_feasible : DefAt K "is_feasible" "is_feasible" s_is_feasible f_is_feasible)
    (r_n_find_lowest_terms : PySem.W.nsIn K mainGlobals "find_lowest_terms" = some (some (.ref f_find_lowest_terms)))
    (r_d_find_lowest_terms : DefAt K "find_lowest_terms" "find_lowest_terms" s_find_lowest_terms f_find_lowest_terms)
    (r_n_find_greatest_divisor : PySem.W.nsIn K mainGlobals "find_greatest_divisor" = some (some (.ref f_find_greatest_divisor)))
    (r_d_find_greatest_divisor : DefAt K "find_greatest_divisor" "find_greatest_divisor" s_find_greatest_divisor f_find_greatest_divisor)
    (r_n_answer_create : PySem.W.nsIn K mainGlobals "answer_create" = some (some (.ref f_answer_create)))
    (r_d_answer_create : DefAt K "answer_create" "answer_create" s_answer_create f_answer_create)
    (r_n_answer_add_machine : PySem.W.nsIn K mainGlobals "answer_add_machine" = some (some (.ref f_answer_add_machine)))
    (r_d_answer_add_machine : DefAt K "answer_add_machine" "answer_add_machine" s_answer_add_machine f_answer_add_machine)
    (r_n_answer_remove_machine : PySem.W.nsIn K mainGlobals "answer_remove_machine" = some (some (.ref f_answer_remove_machine)))
    (r_d_answer_remove_machine : DefAt K "answer_remove_machine" "answer_remove_machine" s_answer_remove_machine f_answer_remove_machine)
    (r_n_answer_set_position : PySem.W.nsIn K mainGlobals "answer_set_position" = some (some (.ref f_answer_set_position)))
    (r_d_answer_set_position : DefAt K "answer_set_position" "answer_set_position" s_answer_set_position f_answer_set_position)
    (r_n_answer_set_run_time : PySem.W.nsIn K mainGlobals "answer_set_run_time" = some (some (.ref f_answer_set_run_time)))
    (r_d_answer_set_run_time : DefAt K "answer_set_run_time" "answer_set_run_time" s_answer_set_run_time f_answer_set_run_time)
    (r_n_answer_set_service_time : PySem.W.nsIn K mainGlobals "answer_set_service_time" = some (some (.ref f_answer_set_service_time)))
    (r_d_answer_set_service_time : DefAt K "answer_set_service_time" "answer_set_service_time" s_answer_set_service_time f_answer_set_service_time)
    (r_n_answer_min_cycle_time : PySem.W.nsIn K mainGlobals "answer_min_cycle_time" = some (some (.ref f_answer_min_cycle_time)))
    (r_d_answer_min_cycle_time : DefAt K "answer_min_cycle_time" "answer_min_cycle_time" s_answer_min_cycle_time f_answer_min_cycle_time)
    (r_n_answer_best_tour : PySem.W.nsIn K mainGlobals "answer_best_tour" = some (some (.ref f_answer_best_tour)))
    (r_d_answer_best_tour : DefAt K "answer_best_tour" "answer_best_tour" s_answer_best_tour f_answer_best_tour)
    (r_n_answer_cycle_time : PySem.W.nsIn K mainGlobals "answer_cycle_time" = some (some (.ref f_answer_cycle_time)))
    (r_d_answer_cycle_time : DefAt K "answer_cycle_time" "answer_cycle_time" s_answer_cycle_time f_answer_cycle_time)
    (r_n_answer_wall_order : PySem.W.nsIn K mainGlobals "answer_wall_order" = some (some (.ref f_answer_wall_order)))
    (r_d_answer_wall_order : DefAt K "answer_wall_order" "answer_wall_order" s_answer_wall_order f_answer_wall_order)
    (r_n_answer_start_times : PySem.W.nsIn K mainGlobals "answer_start_times" = some (some (.ref f_answer_start_times)))
    (r_d_answer_start_times : DefAt K "answer_start_times" "answer_start_times" s_answer_start_times f_answer_start_times)
    (r_n_answer_idle_time : PySem.W.nsIn K mainGlobals "answer_idle_time" = some (some (.ref f_answer_idle_time)))
    (r_d_answer_idle_time : DefAt K "answer_idle_time" "answer_idle_time" s_answer_idle_time f_answer_idle_time)
    (r_n_answer_utilization : PySem.W.nsIn K mainGlobals "answer_utilization" = some (some (.ref f_answer_utilization)))
    (r_d_answer_utilization : DefAt K "answer_utilization" "answer_utilization" s_answer_utilization f_answer_utilization)
    (r_n_answer_largest_group : PySem.W.nsIn K mainGlobals "answer_largest_group" = some (some (.ref f_answer_largest_group)))
    (r_d_answer_largest_group : DefAt K "answer_largest_group" "answer_largest_group" s_answer_largest_group f_answer_largest_group)
    (r_n_answer_best_tour_of : PySem.W.nsIn K mainGlobals "answer_best_tour_of" = some (some (.ref f_answer_best_tour_of)))
    (r_d_answer_best_tour_of : DefAt K "answer_best_tour_of" "answer_best_tour_of" s_answer_best_tour_of f_answer_best_tour_of)
    (r_n_answer_check_schedule : PySem.W.nsIn K mainGlobals "answer_check_schedule" = some (some (.ref f_answer_check_schedule)))
    (r_d_answer_check_schedule : DefAt K "answer_check_schedule" "answer_check_schedule" s_answer_check_schedule f_answer_check_schedule)
    (r_n_answer_min_cycle_time_if : PySem.W.nsIn K mainGlobals "answer_min_cycle_time_if" = some (some (.ref f_answer_min_cycle_time_if)))
    (r_d_answer_min_cycle_time_if : DefAt K "answer_min_cycle_time_if" "answer_min_cycle_time_if" s_answer_min_cycle_time_if f_answer_min_cycle_time_if)
    (r_n_answer_list_machines : PySem.W.nsIn K mainGlobals "answer_list_machines" = some (some (.ref f_answer_list_machines)))
    (r_d_answer_list_machines : DefAt K "answer_list_machines" "answer_list_machines" s_answer_list_machines f_answer_list_machines)
    (r_n_read_given : PySem.W.nsIn K mainGlobals "read_given" = some (some (.ref f_read_given)))
    (r_d_read_given : DefAt K "read_given" "read_given" s_read_given f_read_given)
    (r_n_answer_call : PySem.W.nsIn K mainGlobals "answer_call" = some (some (.ref f_answer_call)))
    (r_d_answer_call : DefAt K "answer_call" "answer_call" s_answer_call f_answer_call)
    (r_n_answers : PySem.W.nsIn K mainGlobals "answers" = some (some (.ref f_answers)))
    (r_d_answers : DefAt K "answers" "answers" s_answers f_answers)
    (r_n_Reader : PySem.W.nsIn K mainGlobals "Reader" = some (some (.ref c_Reader)))
    (r_m_Reader_init : PySem.W.findIn K (.ref c_Reader) "__init__" = some (some (.ref f_Reader_init)))
    (r_y_Reader_init : PySem.W.typeIn K (.ref f_Reader_init) = some (.type "function"))
    (r_d_Reader_init : DefAt K "__init__" "Reader.__init__" s_Reader_init f_Reader_init)
    (r_m_Reader_at_end : PySem.W.findIn K (.ref c_Reader) "at_end" = some (some (.ref f_Reader_at_end)))
    (r_y_Reader_at_end : PySem.W.typeIn K (.ref f_Reader_at_end) = some (.type "function"))
    (r_d_Reader_at_end : DefAt K "at_end" "Reader.at_end" s_Reader_at_end f_Reader_at_end)
    (r_m_Reader_take_number : PySem.W.findIn K (.ref c_Reader) "take_number" = some (some (.ref f_Reader_take_number)))
    (r_y_Reader_take_number : PySem.W.typeIn K (.ref f_Reader_take_number) = some (.type "function"))
    (r_d_Reader_take_number : DefAt K "take_number" "Reader.take_number" s_Reader_take_number f_Reader_take_number)
    (r_m_Reader_take_row : PySem.W.findIn K (.ref c_Reader) "take_row" = some (some (.ref f_Reader_take_row)))
    (r_y_Reader_take_row : PySem.W.typeIn K (.ref f_Reader_take_row) = some (.type "function"))
    (r_d_Reader_take_row : DefAt K "take_row" "Reader.take_row" s_Reader_take_row f_Reader_take_row)
    (r_c_Reader : PlainAt K c_Reader)
    (r_a_Reader_numbers : PySem.W.findIn K (.ref c_Reader) "numbers" = some none)
    (r_a_Reader_place : PySem.W.findIn K (.ref c_Reader) "place" = some none)
    (r_n_Refusal : PySem.W.nsIn K mainGlobals "Refusal" = some (some (.ref c_Refusal)))
    (r_m_Refusal_init : PySem.W.findIn K (.ref c_Refusal) "__init__" = some (some (.ref f_Refusal_init)))
    (r_y_Refusal_init : PySem.W.typeIn K (.ref f_Refusal_init) = some (.type "function"))
    (r_d_Refusal_init : DefAt K "__init__" "Refusal.__init__" s_Refusal_init f_Refusal_init)
    (r_e_Refusal : ErrAt K c_Refusal)
    (r_x_Refusal : PySem.W.exmOne K (.ref c_Refusal) (.ref c_Refusal) = some true)
    (r_g_Refusal : PySem.W.findIn K (.ref c_Refusal) "code" = some none)
    (r_b_Refusal : BaseAt K c_Refusal f_Refusal_init)
    (r_n_NoInstance : PySem.W.nsIn K mainGlobals "NoInstance" = some (some (.ref c_NoInstance)))
    (r_m_NoInstance_init : PySem.W.findIn K (.ref c_NoInstance) "__init__" = some (some (.ref f_NoInstance_init)))
    (r_y_NoInstance_init : PySem.W.typeIn K (.ref f_NoInstance_init) = some (.type "function"))
    (r_d_NoInstance_init : DefAt K "__init__" "NoInstance.__init__" s_NoInstance_init f_NoInstance_init)
    (r_e_NoInstance : ErrAt K c_NoInstance)
    (r_x_NoInstance : PySem.W.exmOne K (.ref c_NoInstance) (.ref c_Refusal) = some true)
    (r_g_NoInstance : PySem.W.findIn K (.ref c_NoInstance) "code" = some none)
    (r_n_NoSuchMachine : PySem.W.nsIn K mainGlobals "NoSuchMachine" = some (some (.ref c_NoSuchMachine)))
    (r_m_NoSuchMachine_init : PySem.W.findIn K (.ref c_NoSuchMachine) "__init__" = some (some (.ref f_NoSuchMachine_init)))
    (r_y_NoSuchMachine_init : PySem.W.typeIn K (.ref f_NoSuchMachine_init) = some (.type "function"))
    (r_d_NoSuchMachine_init : DefAt K "__init__" "NoSuchMachine.__init__" s_NoSuchMachine_init f_NoSuchMachine_init)
    (r_e_NoSuchMachine : ErrAt K c_NoSuchMachine)
    (r_x_NoSuchMachine : PySem.W.exmOne K (.ref c_NoSuchMachine) (.ref c_Refusal) = some true)
    (r_g_NoSuchMachine : PySem.W.findIn K (.ref c_NoSuchMachine) "code" = some none)
    (r_n_BadParameter : PySem.W.nsIn K mainGlobals "BadParameter" = some (some (.ref c_BadParameter)))
    (r_m_BadParameter_init : PySem.W.findIn K (.ref c_BadParameter) "__init__" = some (some (.ref f_BadParameter_init)))
    (r_y_BadParameter_init : PySem.W.typeIn K (.ref f_BadParameter_init) = some (.type "function"))
    (r_d_BadParameter_init : DefAt K "__init__" "BadParameter.__init__" s_BadParameter_init f_BadParameter_init)
    (r_e_BadParameter : ErrAt K c_BadParameter)
    (r_x_BadParameter : PySem.W.exmOne K (.ref c_BadParameter) (.ref c_Refusal) = some true)
    (r_g_BadParameter : PySem.W.findIn K (.ref c_BadParameter) "code" = some none)
    (r_n_TooManyMachines : PySem.W.nsIn K mainGlobals "TooManyMachines" = some (some (.ref c_TooManyMachines)))
    (r_m_TooManyMachines_init : PySem.W.findIn K (.ref c_TooManyMachines) "__init__" = some (some (.ref f_TooManyMachines_init)))
    (r_y_TooManyMachines_init : PySem.W.typeIn K (.ref f_TooManyMachines_init) = some (.type "function"))
    (r_d_TooManyMachines_init : DefAt K "__init__" "TooManyMachines.__init__" s_TooManyMachines_init f_TooManyMachines_init)
    (r_e_TooManyMachines : ErrAt K c_TooManyMachines)
    (r_x_TooManyMachines : PySem.W.exmOne K (.ref c_TooManyMachines) (.ref c_Refusal) = some true)
    (r_g_TooManyMachines : PySem.W.findIn K (.ref c_TooManyMachines) "code" = some none)
    (r_n_NoMachines : PySem.W.nsIn K mainGlobals "NoMachines" = some (some (.ref c_NoMachines)))
    (r_m_NoMachines_init : PySem.W.findIn K (.ref c_NoMachines) "__init__" = some (some (.ref f_NoMachines_init)))
    (r_y_NoMachines_init : PySem.W.typeIn K (.ref f_NoMachines_init) = some (.type "function"))
    (r_d_NoMachines_init : DefAt K "__init__" "NoMachines.__init__" s_NoMachines_init f_NoMachines_init)
    (r_e_NoMachines : ErrAt K c_NoMachines)
    (r_x_NoMachines : PySem.W.exmOne K (.ref c_NoMachines) (.ref c_Refusal) = some true)
    (r_g_NoMachines : PySem.W.findIn K (.ref c_NoMachines) "code" = some none)
    (r_n_Machine : PySem.W.nsIn K mainGlobals "Machine" = some (some (.ref c_Machine)))
    (r_m_Machine_init : PySem.W.findIn K (.ref c_Machine) "__init__" = some (some (.ref f_Machine_init)))
    (r_y_Machine_init : PySem.W.typeIn K (.ref f_Machine_init) = some (.type "function"))
    (r_d_Machine_init : DefAt K "__init__" "Machine.__init__" s_Machine_init f_Machine_init)
    (r_m_Machine_own_time : PySem.W.findIn K (.ref c_Machine) "own_time" = some (some (.ref f_Machine_own_time)))
    (r_y_Machine_own_time : PySem.W.typeIn K (.ref f_Machine_own_time) = some (.type "function"))
    (r_d_Machine_own_time : DefAt K "own_time" "Machine.own_time" s_Machine_own_time f_Machine_own_time)
    (r_m_Machine_distance_to : PySem.W.findIn K (.ref c_Machine) "distance_to" = some (some (.ref f_Machine_distance_to)))
    (r_y_Machine_distance_to : PySem.W.typeIn K (.ref f_Machine_distance_to) = some (.type "function"))
    (r_d_Machine_distance_to : DefAt K "distance_to" "Machine.distance_to" s_Machine_distance_to f_Machine_distance_to)
    (r_c_Machine : PlainAt K c_Machine)
    (r_a_Machine_position : PySem.W.findIn K (.ref c_Machine) "position" = some none)
    (r_a_Machine_run_time : PySem.W.findIn K (.ref c_Machine) "run_time" = some none)
    (r_a_Machine_service_time : PySem.W.findIn K (.ref c_Machine) "service_time" = some none)
    (r_n_Wall : PySem.W.nsIn K mainGlobals "Wall" = some (some (.ref c_Wall)))
    (r_m_Wall_init : PySem.W.findIn K (.ref c_Wall) "__init__" = some (some (.ref f_Wall_init)))
    (r_y_Wall_init : PySem.W.typeIn K (.ref f_Wall_init) = some (.type "function"))
    (r_d_Wall_init : DefAt K "__init__" "Wall.__init__" s_Wall_init f_Wall_init)
    (r_m_Wall_add_machine : PySem.W.findIn K (.ref c_Wall) "add_machine" = some (some (.ref f_Wall_add_machine)))
    (r_y_Wall_add_machine : PySem.W.typeIn K (.ref f_Wall_add_machine) = some (.type "function"))
    (r_d_Wall_add_machine : DefAt K "add_machine" "Wall.add_machine" s_Wall_add_machine f_Wall_add_machine)
    (r_m_Wall_remove_machine : PySem.W.findIn K (.ref c_Wall) "remove_machine" = some (some (.ref f_Wall_remove_machine)))
    (r_y_Wall_remove_machine : PySem.W.typeIn K (.ref f_Wall_remove_machine) = some (.type "function"))
    (r_d_Wall_remove_machine : DefAt K "remove_machine" "Wall.remove_machine" s_Wall_remove_machine f_Wall_remove_machine)
    (r_m_Wall_set_position : PySem.W.findIn K (.ref c_Wall) "set_position" = some (some (.ref f_Wall_set_position)))
    (r_y_Wall_set_position : PySem.W.typeIn K (.ref f_Wall_set_position) = some (.type "function"))
    (r_d_Wall_set_position : DefAt K "set_position" "Wall.set_position" s_Wall_set_position f_Wall_set_position)
    (r_m_Wall_set_run_time : PySem.W.findIn K (.ref c_Wall) "set_run_time" = some (some (.ref f_Wall_set_run_time)))
    (r_y_Wall_set_run_time : PySem.W.typeIn K (.ref f_Wall_set_run_time) = some (.type "function"))
    (r_d_Wall_set_run_time : DefAt K "set_run_time" "Wall.set_run_time" s_Wall_set_run_time f_Wall_set_run_time)
    (r_m_Wall_set_service_time : PySem.W.findIn K (.ref c_Wall) "set_service_time" = some (some (.ref f_Wall_set_service_time)))
    (r_y_Wall_set_service_time : PySem.W.typeIn K (.ref f_Wall_set_service_time) = some (.type "function"))
    (r_d_Wall_set_service_time : DefAt K "set_service_time" "Wall.set_service_time" s_Wall_set_service_time f_Wall_set_service_time)
    (r_m_Wall_min_cycle_time : PySem.W.findIn K (.ref c_Wall) "min_cycle_time" = some (some (.ref f_Wall_min_cycle_time)))
    (r_y_Wall_min_cycle_time : PySem.W.typeIn K (.ref f_Wall_min_cycle_time) = some (.type "function"))
    (r_d_Wall_min_cycle_time : DefAt K "min_cycle_time" "Wall.min_cycle_time" s_Wall_min_cycle_time f_Wall_min_cycle_time)
    (r_m_Wall_best_tour : PySem.W.findIn K (.ref c_Wall) "best_tour" = some (some (.ref f_Wall_best_tour)))
    (r_y_Wall_best_tour : PySem.W.typeIn K (.ref f_Wall_best_tour) = some (.type "function"))
    (r_d_Wall_best_tour : DefAt K "best_tour" "Wall.best_tour" s_Wall_best_tour f_Wall_best_tour)
    (r_m_Wall_cycle_time : PySem.W.findIn K (.ref c_Wall) "cycle_time" = some (some (.ref f_Wall_cycle_time)))
    (r_y_Wall_cycle_time : PySem.W.typeIn K (.ref f_Wall_cycle_time) = some (.type "function"))
    (r_d_Wall_cycle_time : DefAt K "cycle_time" "Wall.cycle_time" s_Wall_cycle_time f_Wall_cycle_time)
    (r_m_Wall_busy_time : PySem.W.findIn K (.ref c_Wall) "busy_time" = some (some (.ref f_Wall_busy_time)))
    (r_y_Wall_busy_time : PySem.W.typeIn K (.ref f_Wall_busy_time) = some (.type "function"))
    (r_d_Wall_busy_time : DefAt K "busy_time" "Wall.busy_time" s_Wall_busy_time f_Wall_busy_time)
    (r_m_Wall_walking_time : PySem.W.findIn K (.ref c_Wall) "walking_time" = some (some (.ref f_Wall_walking_time)))
    (r_y_Wall_walking_time : PySem.W.typeIn K (.ref f_Wall_walking_time) = some (.type "function"))
    (r_d_Wall_walking_time : DefAt K "walking_time" "Wall.walking_time" s_Wall_walking_time f_Wall_walking_time)
    (r_m_Wall_wall_order : PySem.W.findIn K (.ref c_Wall) "wall_order" = some (some (.ref f_Wall_wall_order)))
    (r_y_Wall_wall_order : PySem.W.typeIn K (.ref f_Wall_wall_order) = some (.type "function"))
    (r_d_Wall_wall_order : DefAt K "wall_order" "Wall.wall_order" s_Wall_wall_order f_Wall_wall_order)
    (r_m_Wall_start_times : PySem.W.findIn K (.ref c_Wall) "start_times" = some (some (.ref f_Wall_start_times)))
    (r_y_Wall_start_times : PySem.W.typeIn K (.ref f_Wall_start_times) = some (.type "function"))
    (r_d_Wall_start_times : DefAt K "start_times" "Wall.start_times" s_Wall_start_times f_Wall_start_times)
    (r_m_Wall_idle_time : PySem.W.findIn K (.ref c_Wall) "idle_time" = some (some (.ref f_Wall_idle_time)))
    (r_y_Wall_idle_time : PySem.W.typeIn K (.ref f_Wall_idle_time) = some (.type "function"))
    (r_d_Wall_idle_time : DefAt K "idle_time" "Wall.idle_time" s_Wall_idle_time f_Wall_idle_time)
    (r_m_Wall_utilization : PySem.W.findIn K (.ref c_Wall) "utilization" = some (some (.ref f_Wall_utilization)))
    (r_y_Wall_utilization : PySem.W.typeIn K (.ref f_Wall_utilization) = some (.type "function"))
    (r_d_Wall_utilization : DefAt K "utilization" "Wall.utilization" s_Wall_utilization f_Wall_utilization)
    (r_m_Wall_largest_group : PySem.W.findIn K (.ref c_Wall) "largest_group" = some (some (.ref f_Wall_largest_group)))
    (r_y_Wall_largest_group : PySem.W.typeIn K (.ref f_Wall_largest_group) = some (.type "function"))
    (r_d_Wall_largest_group : DefAt K "largest_group" "Wall.largest_group" s_Wall_largest_group f_Wall_largest_group)
    (r_m_Wall_best_tour_of : PySem.W.findIn K (.ref c_Wall) "best_tour_of" = some (some (.ref f_Wall_best_tour_of)))
    (r_y_Wall_best_tour_of : PySem.W.typeIn K (.ref f_Wall_best_tour_of) = some (.type "function"))
    (r_d_Wall_best_tour_of : DefAt K "best_tour_of" "Wall.best_tour_of" s_Wall_best_tour_of f_Wall_best_tour_of)
    (r_m_Wall_check_schedule : PySem.W.findIn K (.ref c_Wall) "check_schedule" = some (some (.ref f_Wall_check_schedule)))
    (r_y_Wall_check_schedule : PySem.W.typeIn K (.ref f_Wall_check_schedule) = some (.type "function"))
    (r_d_Wall_check_schedule : DefAt K "check_schedule" "Wall.check_schedule" s_Wall_check_schedule f_Wall_check_schedule)
    (r_m_Wall_min_cycle_time_if : PySem.W.findIn K (.ref c_Wall) "min_cycle_time_if" = some (some (.ref f_Wall_min_cycle_time_if)))
    (r_y_Wall_min_cycle_time_if : PySem.W.typeIn K (.ref f_Wall_min_cycle_time_if) = some (.type "function"))
    (r_d_Wall_min_cycle_time_if : DefAt K "min_cycle_time_if" "Wall.min_cycle_time_if" s_Wall_min_cycle_time_if f_Wall_min_cycle_time_if)
    (r_m_Wall_all_members : PySem.W.findIn K (.ref c_Wall) "all_members" = some (some (.ref f_Wall_all_members)))
    (r_y_Wall_all_members : PySem.W.typeIn K (.ref f_Wall_all_members) = some (.type "function"))
    (r_d_Wall_all_members : DefAt K "all_members" "Wall.all_members" s_Wall_all_members f_Wall_all_members)
    (r_m_Wall_check_machine : PySem.W.findIn K (.ref c_Wall) "check_machine" = some (some (.ref f_Wall_check_machine)))
    (r_y_Wall_check_machine : PySem.W.typeIn K (.ref f_Wall_check_machine) = some (.type "function"))
    (r_d_Wall_check_machine : DefAt K "check_machine" "Wall.check_machine" s_Wall_check_machine f_Wall_check_machine)
    (r_m_Wall_check_tour : PySem.W.findIn K (.ref c_Wall) "check_tour" = some (some (.ref f_Wall_check_tour)))
    (r_y_Wall_check_tour : PySem.W.typeIn K (.ref f_Wall_check_tour) = some (.type "function"))
    (r_d_Wall_check_tour : DefAt K "check_tour" "Wall.check_tour" s_Wall_check_tour f_Wall_check_tour)
    (r_m_Wall_has_machine : PySem.W.findIn K (.ref c_Wall) "has_machine" = some (some (.ref f_Wall_has_machine)))
    (r_y_Wall_has_machine : PySem.W.typeIn K (.ref f_Wall_has_machine) = some (.type "function"))
    (r_d_Wall_has_machine : DefAt K "has_machine" "Wall.has_machine" s_Wall_has_machine f_Wall_has_machine)
    (r_c_Wall : PlainAt K c_Wall)
    (r_a_Wall_machines : PySem.W.findIn K (.ref c_Wall) "machines" = some none)
    (r_v_MOST_POSITION : IntAt K "MOST_POSITION" 99)
    (r_v_MOST_RUN_TIME : IntAt K "MOST_RUN_TIME" 99)
    (r_v_LEAST_SERVICE_TIME : IntAt K "LEAST_SERVICE_TIME" 1)
    (r_v_MOST_SERVICE_TIME : IntAt K "MOST_SERVICE_TIME" 99)
    (r_v_MOST_MACHINES : IntAt K "MOST_MACHINES" 6)
    (r_v_MOST_SCHEDULE_TIME : IntAt K "MOST_SCHEDULE_TIME" 9999)
    (r_v_CREATE : IntAt K "CREATE" 0)
    (r_n_CALLS : PySem.W.nsIn K mainGlobals "CALLS" = some (some (.ref t_CALLS)))
    (r_t_CALLS : TupAt K t_CALLS [.ref t_CALLS_0, .ref t_CALLS_1, .ref t_CALLS_2, .ref t_CALLS_3, .ref t_CALLS_4, .ref t_CALLS_5, .ref t_CALLS_6, .ref t_CALLS_7, .ref t_CALLS_8, .ref t_CALLS_9, .ref t_CALLS_10, .ref t_CALLS_11, .ref t_CALLS_12, .ref t_CALLS_13, .ref t_CALLS_14, .ref t_CALLS_15, .ref t_CALLS_16, .ref t_CALLS_17])
    (r_t_CALLS_0 : TupAt K t_CALLS_0 [.ref f_answer_create, .int 0, .int 0])
    (r_t_CALLS_1 : TupAt K t_CALLS_1 [.ref f_answer_add_machine, .int 3, .int 0])
    (r_t_CALLS_2 : TupAt K t_CALLS_2 [.ref f_answer_remove_machine, .int 1, .int 0])
    (r_t_CALLS_3 : TupAt K t_CALLS_3 [.ref f_answer_set_position, .int 2, .int 0])
    (r_t_CALLS_4 : TupAt K t_CALLS_4 [.ref f_answer_set_run_time, .int 2, .int 0])
    (r_t_CALLS_5 : TupAt K t_CALLS_5 [.ref f_answer_set_service_time, .int 2, .int 0])
    (r_t_CALLS_6 : TupAt K t_CALLS_6 [.ref f_answer_min_cycle_time, .int 0, .int 0])
    (r_t_CALLS_7 : TupAt K t_CALLS_7 [.ref f_answer_best_tour, .int 0, .int 0])
    (r_t_CALLS_8 : TupAt K t_CALLS_8 [.ref f_answer_cycle_time, .int 0, .int 1])
    (r_t_CALLS_9 : TupAt K t_CALLS_9 [.ref f_answer_wall_order, .int 0, .int 0])
    (r_t_CALLS_10 : TupAt K t_CALLS_10 [.ref f_answer_start_times, .int 0, .int 1])
    (r_t_CALLS_11 : TupAt K t_CALLS_11 [.ref f_answer_idle_time, .int 1, .int 0])
    (r_t_CALLS_12 : TupAt K t_CALLS_12 [.ref f_answer_utilization, .int 0, .int 0])
    (r_t_CALLS_13 : TupAt K t_CALLS_13 [.ref f_answer_largest_group, .int 1, .int 0])
    (r_t_CALLS_14 : TupAt K t_CALLS_14 [.ref f_answer_best_tour_of, .int 1, .int 0])
    (r_t_CALLS_15 : TupAt K t_CALLS_15 [.ref f_answer_check_schedule, .int 1, .int 2])
    (r_t_CALLS_16 : TupAt K t_CALLS_16 [.ref f_answer_min_cycle_time_if, .int 2, .int 0])
    (r_t_CALLS_17 : TupAt K t_CALLS_17 [.ref f_answer_list_machines, .int 0, .int 0])
    (r_z_abs : PySem.W.nsIn K mainGlobals "abs" = some none)
    (r_z_len : PySem.W.nsIn K mainGlobals "len" = some none)
    (r_z_list : PySem.W.nsIn K mainGlobals "list" = some none)
    (r_z_max : PySem.W.nsIn K mainGlobals "max" = some none)
    (r_z_min : PySem.W.nsIn K mainGlobals "min" = some none)
    (r_z_range : PySem.W.nsIn K mainGlobals "range" = some none)
    (r_z_sorted : PySem.W.nsIn K mainGlobals "sorted" = some none)
    (r_z_sum : PySem.W.nsIn K mainGlobals "sum" = some none)
    : Raw K ⟨f_find_walking_time, f_find_way_on, f_find_service_sum, f_find_busy_time, f_find_longest_own_time, f_find_cycle_time, f_find_min_cycle_time, f_find_wall_order, f_find_best_tour, f_find_next_order, f_count_masks, f_find_members, f_find_largest_group, f_check_position, f_check_run_time, f_check_service_time, f_check_range, f_find_start_times, f_find_arrival, f_is_feasible, f_find_lowest_terms, f_find_greatest_divisor, f_answer_create, f_answer_add_machine, f_answer_remove_machine, f_answer_set_position, f_answer_set_run_time, f_answer_set_service_time, f_answer_min_cycle_time, f_answer_best_tour, f_answer_cycle_time, f_answer_wall_order, f_answer_start_times, f_answer_idle_time, f_answer_utilization, f_answer_largest_group, f_answer_best_tour_of, f_answer_check_schedule, f_answer_min_cycle_time_if, f_answer_list_machines, f_read_given, f_answer_call, f_answers, c_Reader, f_Reader_init, f_Reader_at_end, f_Reader_take_number, f_Reader_take_row, c_Refusal, f_Refusal_init, c_NoInstance, f_NoInstance_init, c_NoSuchMachine, f_NoSuchMachine_init, c_BadParameter, f_BadParameter_init, c_TooManyMachines, f_TooManyMachines_init, c_NoMachines, f_NoMachines_init, c_Machine, f_Machine_init, f_Machine_own_time, f_Machine_distance_to, c_Wall, f_Wall_init, f_Wall_add_machine, f_Wall_remove_machine, f_Wall_set_position, f_Wall_set_run_time, f_Wall_set_service_time, f_Wall_min_cycle_time, f_Wall_best_tour, f_Wall_cycle_time, f_Wall_busy_time, f_Wall_walking_time, f_Wall_wall_order, f_Wall_start_times, f_Wall_idle_time, f_Wall_utilization, f_Wall_largest_group, f_Wall_best_tour_of, f_Wall_check_schedule, f_Wall_min_cycle_time_if, f_Wall_all_members, f_Wall_check_machine, f_Wall_check_tour, f_Wall_has_machine, t_CALLS, t_CALLS_0, t_CALLS_1, t_CALLS_2, t_CALLS_3, t_CALLS_4, t_CALLS_5, t_CALLS_6, t_CALLS_7, t_CALLS_8, t_CALLS_9, t_CALLS_10, t_CALLS_11, t_CALLS_12, t_CALLS_13, t_CALLS_14, t_CALLS_15, t_CALLS_16, t_CALLS_17⟩ := by
  constructor
  · exact r_n_find_walking_time
  · exact r_d_find_walking_time
  · exact r_n_find_way_on
  · exact r_d_find_way_on
  · exact r_n_find_service_sum
  · exact r_d_find_service_sum
  · exact r_n_find_busy_time
  · exact r_d_find_busy_time
  · exact r_n_find_longest_own_time
  · exact r_d_find_longest_own_time
  · exact r_n_find_cycle_time
  · exact r_d_find_cycle_time
  · exact r_n_find_min_cycle_time
  · exact r_d_find_min_cycle_time
  · exact r_n_find_wall_order
  · exact r_d_find_wall_order
  · exact r_n_find_best_tour
  · exact r_d_find_best_tour
  · exact r_n_find_next_order
  · exact r_d_find_next_order
  · exact r_n_count_masks
  · exact r_d_count_masks
  · exact r_n_find_members
  · exact r_d_find_members
  · exact r_n_find_largest_group
  · exact r_d_find_largest_group
  · exact r_n_check_position
  · exact r_d_check_position
  · exact r_n_check_run_time
  · exact r_d_check_run_time
  · exact r_n_check_service_time
  · exact r_d_check_service_time
  · exact r_n_check_range
  · exact r_d_check_range
  · exact r_n_find_start_times
  · exact r_d_find_start_times
  · exact r_n_find_arrival
  · exact r_d_find_arrival
  · exact r_n_is_feasible
  · exact r_d_is_feasible
  · exact r_n_find_lowest_terms
  · exact r_d_find_lowest_terms
  · exact r_n_find_greatest_divisor
  · exact r_d_find_greatest_divisor
  · exact r_n_answer_create
  · exact r_d_answer_create
  · exact r_n_answer_add_machine
  · exact r_d_answer_add_machine
  · exact r_n_answer_remove_machine
  · exact r_d_answer_remove_machine
  · exact r_n_answer_set_position
  · exact r_d_answer_set_position
  · exact r_n_answer_set_run_time
  · exact r_d_answer_set_run_time
  · exact r_n_answer_set_service_time
  · exact r_d_answer_set_service_time
  · exact r_n_answer_min_cycle_time
  · exact r_d_answer_min_cycle_time
  · exact r_n_answer_best_tour
  · exact r_d_answer_best_tour
  · exact r_n_answer_cycle_time
  · exact r_d_answer_cycle_time
  · exact r_n_answer_wall_order
  · exact r_d_answer_wall_order
  · exact r_n_answer_start_times
  · exact r_d_answer_start_times
  · exact r_n_answer_idle_time
  · exact r_d_answer_idle_time
  · exact r_n_answer_utilization
  · exact r_d_answer_utilization
  · exact r_n_answer_largest_group
  · exact r_d_answer_largest_group
  · exact r_n_answer_best_tour_of
  · exact r_d_answer_best_tour_of
  · exact r_n_answer_check_schedule
  · exact r_d_answer_check_schedule
  · exact r_n_answer_min_cycle_time_if
  · exact r_d_answer_min_cycle_time_if
  · exact r_n_answer_list_machines
  · exact r_d_answer_list_machines
  · exact r_n_read_given
  · exact r_d_read_given
  · exact r_n_answer_call
  · exact r_d_answer_call
  · exact r_n_answers
  · exact r_d_answers
  · exact r_n_Reader
  · exact r_m_Reader_init
  · exact r_y_Reader_init
  · exact r_d_Reader_init
  · exact r_m_Reader_at_end
  · exact r_y_Reader_at_end
  · exact r_d_Reader_at_end
  · exact r_m_Reader_take_number
  · exact r_y_Reader_take_number
  · exact r_d_Reader_take_number
  · exact r_m_Reader_take_row
  · exact r_y_Reader_take_row
  · exact r_d_Reader_take_row
  · exact r_c_Reader
  · exact r_a_Reader_numbers
  · exact r_a_Reader_place
  · exact r_n_Refusal
  · exact r_m_Refusal_init
  · exact r_y_Refusal_init
  · exact r_d_Refusal_init
  · exact r_e_Refusal
  · exact r_x_Refusal
  · exact r_g_Refusal
  · exact r_b_Refusal
  · exact r_n_NoInstance
  · exact r_m_NoInstance_init
  · exact r_y_NoInstance_init
  · exact r_d_NoInstance_init
  · exact r_e_NoInstance
  · exact r_x_NoInstance
  · exact r_g_NoInstance
  · exact r_n_NoSuchMachine
  · exact r_m_NoSuchMachine_init
  · exact r_y_NoSuchMachine_init
  · exact r_d_NoSuchMachine_init
  · exact r_e_NoSuchMachine
  · exact r_x_NoSuchMachine
  · exact r_g_NoSuchMachine
  · exact r_n_BadParameter
  · exact r_m_BadParameter_init
  · exact r_y_BadParameter_init
  · exact r_d_BadParameter_init
  · exact r_e_BadParameter
  · exact r_x_BadParameter
  · exact r_g_BadParameter
  · exact r_n_TooManyMachines
  · exact r_m_TooManyMachines_init
  · exact r_y_TooManyMachines_init
  · exact r_d_TooManyMachines_init
  · exact r_e_TooManyMachines
  · exact r_x_TooManyMachines
  · exact r_g_TooManyMachines
  · exact r_n_NoMachines
  · exact r_m_NoMachines_init
  · exact r_y_NoMachines_init
  · exact r_d_NoMachines_init
  · exact r_e_NoMachines
  · exact r_x_NoMachines
  · exact r_g_NoMachines
  · exact r_n_Machine
  · exact r_m_Machine_init
  · exact r_y_Machine_init
  · exact r_d_Machine_init
  · exact r_m_Machine_own_time
  · exact r_y_Machine_own_time
  · exact r_d_Machine_own_time
  · exact r_m_Machine_distance_to
  · exact r_y_Machine_distance_to
  · exact r_d_Machine_distance_to
  · exact r_c_Machine
  · exact r_a_Machine_position
  · exact r_a_Machine_run_time
  · exact r_a_Machine_service_time
  · exact r_n_Wall
  · exact r_m_Wall_init
  · exact r_y_Wall_init
  · exact r_d_Wall_init
  · exact r_m_Wall_add_machine
  · exact r_y_Wall_add_machine
  · exact r_d_Wall_add_machine
  · exact r_m_Wall_remove_machine
  · exact r_y_Wall_remove_machine
  · exact r_d_Wall_remove_machine
  · exact r_m_Wall_set_position
  · exact r_y_Wall_set_position
  · exact r_d_Wall_set_position
  · exact r_m_Wall_set_run_time
  · exact r_y_Wall_set_run_time
  · exact r_d_Wall_set_run_time
  · exact r_m_Wall_set_service_time
  · exact r_y_Wall_set_service_time
  · exact r_d_Wall_set_service_time
  · exact r_m_Wall_min_cycle_time
  · exact r_y_Wall_min_cycle_time
  · exact r_d_Wall_min_cycle_time
  · exact r_m_Wall_best_tour
  · exact r_y_Wall_best_tour
  · exact r_d_Wall_best_tour
  · exact r_m_Wall_cycle_time
  · exact r_y_Wall_cycle_time
  · exact r_d_Wall_cycle_time
  · exact r_m_Wall_busy_time
  · exact r_y_Wall_busy_time
  · exact r_d_Wall_busy_time
  · exact r_m_Wall_walking_time
  · exact r_y_Wall_walking_time
  · exact r_d_Wall_walking_time
  · exact r_m_Wall_wall_order
  · exact r_y_Wall_wall_order
  · exact r_d_Wall_wall_order
  · exact r_m_Wall_start_times
  · exact r_y_Wall_start_times
  · exact r_d_Wall_start_times
  · exact r_m_Wall_idle_time
  · exact r_y_Wall_idle_time
  · exact r_d_Wall_idle_time
  · exact r_m_Wall_utilization
  · exact r_y_Wall_utilization
  · exact r_d_Wall_utilization
  · exact r_m_Wall_largest_group
  · exact r_y_Wall_largest_group
  · exact r_d_Wall_largest_group
  · exact r_m_Wall_best_tour_of
  · exact r_y_Wall_best_tour_of
  · exact r_d_Wall_best_tour_of
  · exact r_m_Wall_check_schedule
  · exact r_y_Wall_check_schedule
  · exact r_d_Wall_check_schedule
  · exact r_m_Wall_min_cycle_time_if
  · exact r_y_Wall_min_cycle_time_if
  · exact r_d_Wall_min_cycle_time_if
  · exact r_m_Wall_all_members
  · exact r_y_Wall_all_members
  · exact r_d_Wall_all_members
  · exact r_m_Wall_check_machine
  · exact r_y_Wall_check_machine
  · exact r_d_Wall_check_machine
  · exact r_m_Wall_check_tour
  · exact r_y_Wall_check_tour
  · exact r_d_Wall_check_tour
  · exact r_m_Wall_has_machine
  · exact r_y_Wall_has_machine
  · exact r_d_Wall_has_machine
  · exact r_c_Wall
  · exact r_a_Wall_machines
  · exact r_v_MOST_POSITION
  · exact r_v_MOST_RUN_TIME
  · exact r_v_LEAST_SERVICE_TIME
  · exact r_v_MOST_SERVICE_TIME
  · exact r_v_MOST_MACHINES
  · exact r_v_MOST_SCHEDULE_TIME
  · exact r_v_CREATE
  · exact r_n_CALLS
  · exact r_t_CALLS
  · exact r_t_CALLS_0
  · exact r_t_CALLS_1
  · exact r_t_CALLS_2
  · exact r_t_CALLS_3
  · exact r_t_CALLS_4
  · exact r_t_CALLS_5
  · exact r_t_CALLS_6
  · exact r_t_CALLS_7
  · exact r_t_CALLS_8
  · exact r_t_CALLS_9
  · exact r_t_CALLS_10
  · exact r_t_CALLS_11
  · exact r_t_CALLS_12
  · exact r_t_CALLS_13
  · exact r_t_CALLS_14
  · exact r_t_CALLS_15
  · exact r_t_CALLS_16
  · exact r_t_CALLS_17
  · exact r_z_abs
  · exact r_z_len
  · exact r_z_list
  · exact r_z_max
  · exact r_z_min
  · exact r_z_range
  · exact r_z_sorted
  · exact r_z_sum
end Tp

set_option maxRecDepth 100000
set_option maxHeartbeats 4000000
namespace Tp
open PySem PySem.Spec PyProof.Rows L2 TwX TwY
/-! ### small words -/
theorem lk_here {k : Str} {v : V} {r : List (Str × V)} : List.lookup k ((k, v) :: r) = some v := by
  have e : (k == k) = true := beq_self_eq_true k
  simp only [List.lookup, e]
theorem lk_past {k g : Str} {v : V} {r : List (Str × V)} (h : (k == g) = false) : List.lookup k ((g, v) :: r) = List.lookup k r := by
  simp only [List.lookup, h]
theorem put_here {f : Str} {v x : V} {r : List (Str × V)} : putF f v ((f, x) :: r) = (f, v) :: r := if_pos rfl
theorem put_past {f g : Str} {v x : V} {r : List (Str × V)} (h : ¬ g = f) : putF f v ((g, x) :: r) = (g, x) :: putF f v r := if_neg h
/-- a def keeps its promise, and how it is called -/
structure Kept (P : Program) (w : World) (K : PySem.W.Frag) (mg : Str → Option Value) (base : Heap) (CX : CXT) (k : Nat) (f : Addr) (ps : List Str) (sp : Sp) : Prop where
  ex : ∃ fd, FnOk P w K mg base CX k f fd ps sp ∧ Binds K fd ps [] ∧ PySem.W.keepIn K (.ref f) = true
def nats (l : List Nat) : List V := l.map fun (i : Nat) => V.int i
theorem nats_get {l : List Nat} {i : Nat} (h : i < l.length) : (nats l)[i]? = some (.int ((l.getD i 0 : Nat) : Int)) := by
  unfold nats
  rw [List.getElem?_map, List.getElem?_eq_getElem h, List.getD_eq_getElem?_getD, List.getElem?_eq_getElem h]
  rfl
theorem nats_len (l : List Nat) : (nats l).length = l.length := List.length_map ..
/-! ### machines in the heap -/
def mF (m : Sr120.Machine) : List (Str × V) := [("position", .int m.position), ("run_time", .int m.runTime), ("service_time", .int m.serviceTime)]
def MachAt (C : Addr) (H : Hp) (p : Addr) (m : Sr120.Machine) : Prop := ∃ dx, H p = some (.ins C dx (mF m))
theorem mF_pos (m : Sr120.Machine) : (mF m).lookup ("position" : Str) = some (.int m.position) := lk_here
theorem mF_run (m : Sr120.Machine) : (mF m).lookup ("run_time" : Str) = some (.int m.runTime) := (lk_past (by decide +kernel)).trans lk_here
theorem mF_ser (m : Sr120.Machine) : (mF m).lookup ("service_time" : Str) = some (.int m.serviceTime) := (lk_past (by decide +kernel)).trans ((lk_past (by decide +kernel)).trans lk_here)
theorem mF_dist (m : Sr120.Machine) : (mF m).lookup ("distance_to" : Str) = none := (lk_past (by decide +kernel)).trans ((lk_past (by decide +kernel)).trans ((lk_past (by decide +kernel)).trans rfl))
theorem mF_own (m : Sr120.Machine) : (mF m).lookup ("own_time" : Str) = none := (lk_past (by decide +kernel)).trans ((lk_past (by decide +kernel)).trans ((lk_past (by decide +kernel)).trans rfl))
/-- at l a list of machines, as w has them -/
structure Fleet (C : Addr) (H : Hp) (l : Addr) (w : Sr120.Workshop) : Prop where
  ex : ∃ ps : List Addr, H l = some (.lst (ps.map V.ref)) ∧ ps.length = w.length ∧ ∀ (i : Nat) (p : Addr), ps[i]? = some p → MachAt C H p (Sr120.machineAt w i)
theorem Fleet.same {C : Addr} {H H' : Hp} {l : Addr} {w : Sr120.Workshop} (h : Fleet C H l w) (s : Same H H') : Fleet C H' l w := by
  obtain ⟨ps, e1, e2, e3⟩ := h.ex
  refine ⟨ps, s _ _ e1, e2, fun i p hp => ?_⟩
  obtain ⟨dx, e⟩ := e3 i p hp
  exact ⟨dx, s _ _ e⟩
/-- the i-th machine -/
theorem Fleet.at {C : Addr} {H : Hp} {l : Addr} {w : Sr120.Workshop} (h : Fleet C H l w) {i : Nat} (hi : i < w.length) :
    ∃ (xs : List V) (p dx : Addr), H l = some (.lst xs) ∧ atI xs (i : Int) = some (.ref p) ∧ H p = some (.ins C dx (mF (Sr120.machineAt w i))) := by
  obtain ⟨ps, e1, e2, e3⟩ := h.ex
  have hp : ps[i]? = some ps[i] := List.getElem?_eq_getElem (by omega)
  obtain ⟨dx, e⟩ := e3 i _ hp
  refine ⟨_, ps[i], dx, e1, atI_nat ?_, e⟩
  rw [List.getElem?_map, hp]
  rfl
theorem meth_mk {K : PySem.W.Frag} {C f : Addr} {m x q : Str} {st : Stmt} {fd : FuncData} (h : PySem.W.findIn K (.ref C) m = some (some (.ref f))) (y : PySem.W.typeIn K (.ref f) = some (.type "function")) (F : Fun K x q st f fd) : Meth K C m f :=
  ⟨h, by unfold PySem.W.isFn; rw [y]; rfl, F.kp⟩
section
variable {P : Program} {w : World} {K : PySem.W.Frag} {mg : Str → Option Value} {base : Heap} {a : Ad}
/-- what the top has written, and the names by it -/
structure Txt (K : PySem.W.Frag) (mg : Str → Option Value) (a : Ad) : Prop where
  r : Raw K a
  g : ∀ {x : Str} {v : Value}, PySem.W.nsIn K mainGlobals x = some (some v) → mg x = some v
  z : ∀ {x : Str}, PySem.W.nsIn K mainGlobals x = some none → mg x = none
/-! ### Machine.distance_to(self, other) -/
def spDist (a : Ad) : Sp := fun vs H Q _ => ∃ (p dx q dy : Addr) (m n : Sr120.Machine), vs = [.ref p, .ref q] ∧ H p = some (.ins a.c_Machine dx (mF m)) ∧ H q = some (.ins a.c_Machine dy (mF n)) ∧ Q (.int (Sr120.distance m.position n.position : Nat)) H
theorem sc_dist : FnScope ["self", "other"] ["self", "other"] (defScope s_Machine_distance_to) := ⟨rfl, rfl, rfl, by decide +kernel, rfl, by decide +kernel, by decide +kernel⟩
theorem ok_dist (T : Txt K mg a) : Kept P w K mg base CX0 1 a.f_Machine_distance_to ["self", "other"] (spDist a) := by
  obtain ⟨fd, F⟩ := T.r.d_Machine_distance_to
  refine ⟨fd, F.ok sc_dist (fun vs H Q E h => ?_) (fun cdv A outer s H vs Q E hr h => ?_), F.binds fun _ _ _ _ _ _ us hl => match us, hl with | [_, _], _ => rfl, F.kp⟩
  · obtain ⟨p, dx, q, dy, m, n, rfl, _⟩ := h
    rfl
  · refine ⟨_, pss_one (ps_ret (pe_callB call_abs (by rfl) (T.z T.r.z_abs) (by decide +kernel) (pa_cons (pe_op op_sub (pe_fld (pv 0) rfl) (pe_fld (pv 1) rfl)) pa_nil))), ?_⟩
    obtain ⟨p, dx, q, dy, m, n, rfl, hp, hq, k⟩ := h
    refine ⟨_, rfl, p, _, dx, _, _, rfl, hp, T.r.c_Machine.cl, T.r.a_Machine_position, mF_pos _, _, rfl, q, _, dy, _, _, rfl, hq, T.r.c_Machine.cl, T.r.a_Machine_position, mF_pos _, _, _, rfl, rfl, _, rfl, ?_⟩
    have key := Tw.dist_abs m.position n.position
    exact key ▸ k
theorem at_dist (T : Txt K mg a) : Meth K a.c_Machine "distance_to" a.f_Machine_distance_to := by
  obtain ⟨fd, F⟩ := T.r.d_Machine_distance_to
  exact meth_mk T.r.m_Machine_distance_to T.r.y_Machine_distance_to F
/-! ### find_way_on(machines, tour, k); slots: machines, tour, k, here, there -/
def spWay (a : Ad) (K : PySem.W.Frag) : Sp := fun vs H Q _ => ∃ (l t : Addr) (ws : Sr120.Workshop) (tour : List Nat) (k : Nat), vs = [.ref l, .ref t, .int (k : Nat)] ∧ Fleet a.c_Machine H l ws ∧ SqL K H t (nats tour) ∧ (∀ i ∈ tour, i < ws.length) ∧ k < tour.length ∧
  Q (.int (Sr120.distance (Tw.pos ws (tour.getD k 0)) (Tw.pos ws (tour.getD ((k + 1) % tour.length) 0)) : Nat)) H
theorem sc_way : FnScope ["machines", "tour", "k", "here", "there"] ["machines", "tour", "k"] (defScope s_find_way_on) := ⟨rfl, rfl, rfl, by decide +kernel, rfl, by decide +kernel, by decide +kernel⟩
theorem ok_way (T : Txt K mg a) : Kept P w K mg base CX0 2 a.f_find_way_on ["machines", "tour", "k"] (spWay a K) := by
  obtain ⟨fd, F⟩ := T.r.d_find_way_on
  obtain ⟨f1, F1, b1, k1⟩ := (ok_dist (P := P) (w := w) (base := base) T).ex
  refine ⟨fd, F.ok sc_way (fun vs H Q E h => ?_) (fun cdv A outer s H vs Q E hr h => ?_), F.binds fun _ _ _ _ _ _ us hl => match us, hl with | [_, _, _], _ => rfl, F.kp⟩
  · obtain ⟨l, t, ws, tour, k, rfl, _⟩ := h
    rfl
  · refine ⟨_, pss_cons (ps_set (i := 3) sc_way.nd rfl (.inl rfl) (pe_ix ix_list (pv 0) (pe_ix ix_list (pv 1) (pv 2) (fun _ _ => rfl)) (fun _ _ => rfl)))
      (pss_cons (ps_set (i := 4) sc_way.nd rfl (.inl rfl) (pe_ix ix_list (pv 0) (pe_ix ix_list (pv 1) (pe_op op_modN (pe_op op_add (pv 2) pe_int) (pe_callB call_len_seq (by rfl) (T.z T.r.z_len) PySem.boot_len (pa_cons (pv 1) pa_nil))) (fun _ _ => rfl)) (fun _ _ => rfl)))
      (pss_one (ps_ret (pe_meth (pv 3) T.r.c_Machine.cl (at_dist T) F1 hr b1 .nil pass0 (pa_cons (pv 4) pa_nil))))), ?_⟩
    obtain ⟨l, t, ws, tour, k, rfl, hF, hT, hi, hk, q⟩ := h
    have hm : (k + 1) % tour.length < tour.length := Nat.mod_lt _ (by omega)
    obtain ⟨xs, p, dx, e1, e2, e3⟩ := hF.at (hi _ (Tw.getD_mem hk))
    obtain ⟨xs2, p2, dx2, g1, g2, g3⟩ := hF.at (hi _ (Tw.getD_mem hm))
    refine ⟨_, rfl, _, rfl, _, rfl, t, _, _, _, rfl, rfl, hT, atI_nat (nats_get hk), l, xs, _, _, rfl, rfl, .of e1, e2, ?_⟩
    refine ⟨_, rfl, _, rfl, _, rfl, _, _, rfl, rfl, _, rfl, t, _, rfl, .inl hT, _, _, rfl, rfl, by rw [nats_len]; omega, t, _, _, _, rfl, rfl, hT, ?_, l, xs2, _, _, rfl, rfl, .of g1, g2, ?_⟩
    · rw [nats_len, Tw.fmod_nat]
      exact atI_nat (nats_get hm)
    · exact ⟨_, rfl, p, dx, _, rfl, e3, mF_dist _, _, rfl, p, dx, p2, dx2, _, _, rfl, e3, g3, q⟩
/-! ### find_walking_time(machines, tour); slots: machines, tour, walked, k -/
def spWalk (a : Ad) (K : PySem.W.Frag) : Sp := fun vs H Q _ => ∃ (l t : Addr) (ws : Sr120.Workshop) (tour : List Nat), vs = [.ref l, .ref t] ∧ Fleet a.c_Machine H l ws ∧ SqL K H t (nats tour) ∧ (∀ i ∈ tour, i < ws.length) ∧ tour.length ≤ 100 ∧
  Q (.int (Sr120.walkTime ws tour)) H
theorem sc_walk : FnScope ["machines", "tour", "walked", "k"] ["machines", "tour"] (defScope s_find_walking_time) := ⟨rfl, rfl, rfl, by decide +kernel, rfl, by decide +kernel, by decide +kernel⟩
theorem ok_walk (T : Txt K mg a) : Kept P w K mg base CX0 3 a.f_find_walking_time ["machines", "tour"] (spWalk a K) := by
  obtain ⟨fd, F⟩ := T.r.d_find_walking_time
  obtain ⟨f1, F1, b1, k1⟩ := (ok_way (P := P) (w := w) (base := base) T).ex
  refine ⟨fd, F.ok sc_walk (fun vs H Q E h => ?_) (fun cdv A outer s H vs Q E hr h => ?_), F.binds fun _ _ _ _ _ _ us hl => match us, hl with | [_, _], _ => rfl, F.kp⟩
  · obtain ⟨l, t, ws, tour, rfl, _⟩ := h
    rfl
  · refine ⟨_, pss_cons (ps_set (i := 2) sc_walk.nd rfl (.inl rfl) pe_int)
      (pss_cons (ps_for PassesOwn.never rfl (pi_range1 (by rfl) (T.z T.r.z_range) (pa_cons (pe_callB call_len_seq (by rfl) (T.z T.r.z_len) PySem.boot_len (pa_cons (pv 1) pa_nil)) pa_nil)) (pg_name (i := 3) sc_walk.nd rfl (.inl rfl))
        (pss_one (ps_aug (i := 2) sc_walk.nd rfl (.inl rfl) (pe_call F1 hr rfl (T.g T.r.n_find_way_on) k1 b1 .nil pass0 (pa_cons (pv 0) (pa_cons (pv 1) (pa_cons (pv 3) pa_nil)))) ip_add)))
      (pss_one (ps_ret (pv 2)))), ?_⟩
    obtain ⟨l, t, ws, tour, rfl, hF, hT, hi, hlen, k⟩ := h
    refine ⟨_, rfl, t, _, rfl, .inl hT, _, rfl, by rw [nats_len]; omega, by rw [nats_len]; omega, for_range (n := (nats tour).length) (fun k σ H' => H' = H ∧ ∃ v3, σ = [some (.ref l), some (.ref t), some (.int ((Tw.wsum ws tour k : Nat) : Int)), v3]) ⟨rfl, _, rfl⟩ ?_ ?_⟩
    · rintro k0 σ H' hk ⟨rfl, v3, rfl⟩
      rw [nats_len] at hk
      rw [Int.zero_add]
      refine ⟨_, rfl, _, rfl, _, rfl, _, rfl, l, t, ws, tour, k0, rfl, hF, hT, hi, hk, _, _, rfl, rfl, rfl, some (.int ((k0 : Nat) : Int)), ?_⟩
      have key : ((Tw.wsum ws tour k0 : Nat) : Int) + ((Sr120.distance (Tw.pos ws (tour.getD k0 0)) (Tw.pos ws (tour.getD ((k0 + 1) % tour.length) 0)) : Nat) : Int) = ((Tw.wsum ws tour (k0 + 1) : Nat) : Int) := by
        rw [Tw.wsum_succ]
        omega
      exact congrArg (fun z => [some (V.ref l), some (V.ref t), some (V.int z), some (V.int ((k0 : Nat) : Int))]) key
    · rintro σ H' ⟨rfl, v3, rfl⟩
      rw [nats_len, Tw.wsum_full]
      exact ⟨_, rfl, k⟩
end
end Tp

set_option maxRecDepth 100000
set_option maxHeartbeats 4000000
namespace Tw
open Sr120
theorem sum_cast (f : Nat → Nat) : ∀ l : List Nat, (l.map fun j => ((f j : Nat) : Int)).sum = (((l.map f).sum : Nat) : Int)
  | [] => rfl
  | a :: r => by
    rw [List.map_cons, List.sum_cons, sum_cast f r, List.map_cons, List.sum_cons]
    exact (Int.natCast_add _ _).symm
theorem service_cast (w : Workshop) (t : List Nat) : (t.map fun j => (((machineAt w j).serviceTime : Nat) : Int)).sum = ((service w t : Nat) : Int) := by
  unfold service
  rw [sum_eq]
  exact sum_cast _ t
end Tw
namespace Tp
open PySem PySem.Spec PyProof.Rows L2 TwX TwY
theorem upd_upd {H : Hp} {D : Addr} {o o' : HO} : upd (upd H D o) D o' = upd H D o' := by
  funext b
  by_cases h : b = D
  · subst h
    rw [upd_same, upd_same]
  · rw [upd_ne h, upd_ne h, upd_ne h]
theorem same_new {H : Hp} {D : Addr} {o : HO} (h : H D = none) : Same H (upd H D o) := fun b o' e => by
  rw [upd_ne (ne_of_none e h)]
  exact e
theorem ints_map (f : Nat → Int) (l : List Nat) : (l.map f).map V.int = l.map fun j => V.int (f j) := List.map_map
theorem nats_at {l : List Nat} {i : Nat} {x : V} (h : (nats l)[i]? = some x) : ∃ j, l[i]? = some j ∧ j ∈ l ∧ x = .int (j : Nat) := by
  unfold nats at h
  rw [List.getElem?_map] at h
  cases e : l[i]? with
  | none => rw [e] at h; cases h
  | some j =>
    rw [e] at h
    cases h
    exact ⟨j, rfl, List.mem_of_getElem? e, rfl⟩
theorem take_at {α : Type} {l : List α} {i : Nat} {x : α} (h : l[i]? = some x) : l.take (i + 1) = l.take i ++ [x] := by
  rw [List.take_add_one, h]
  rfl
/-- a comprehension that takes a number of each index -/
theorem lc_map {K : PySem.W.Frag} {t : Addr} {tour : List Nat} {te : TE} {vs : List Nat} {i : Nat} {σ : L2.St} {H : Hp} {D : Addr} {Qd : Hp → Prop} (g : Nat → Int) (hD : H D = none) (hT : SqL K H t (nats tour)) (hlen : tour.length ≤ 100)
    (hv : ∀ x, wipe ((wipe σ vs).set i (some x)) vs = wipe σ vs) (he : ∀ j ∈ tour, ∀ H', Same H H' → ∀ Q : V → Hp → Prop, Q (.int (g j)) H' → te ((wipe σ vs).set i (some (.int (j : Nat)))) H' Q)
    (hq : Qd (upd H D (.lst ((tour.map g).map V.int)))) :
    ∃ W : Nat → Nat → Hp → Prop, (∃ m, W 0 m (upd H D (.lst []))) ∧ ∀ i2 m H2, W i2 m H2 →
      ((Itl K t).stop i2 H2 ∧ Qd H2) ∨ ((Itl K t).go i2 H2 ∧ ∃ Nx : Hp → Prop, (∀ H', Nx H' → ∃ m', m' < m ∧ W (i2 + 1) m' H') ∧
        ∀ x H', (Itl K t).yld i2 H2 x H' → gName i x (wipe σ vs) H' fun σ2 H2 => wipe σ2 vs = wipe σ vs ∧ tYes σ2 H2 fun b H3 =>
          if b = true then te σ2 H3 fun y H4 => ∃ acc, H4 D = some (.lst acc) ∧ acc.length < sizeLine ∧ Nx (upd H4 D (.lst (acc ++ [y]))) else Nx H3) := by
  refine lc_list (xs := nats tour) (fun i H' => H' = upd H D (.lst (((tour.take i).map g).map V.int))) rfl ?_ ?_ ?_
  · rintro k H' _ rfl
    exact (same_new hD).seq hT
  · rintro k x H' hx rfl
    obtain ⟨j, hj, hm, rfl⟩ := nats_at hx
    refine ⟨hv _, ?_⟩
    unfold tYes
    dsimp only
    rw [if_pos rfl]
    refine he j hm _ (same_new hD) _ ⟨_, upd_same, ?_, ?_⟩
    · rw [List.length_map, List.length_map]
      have : (tour.take k).length ≤ tour.length := List.length_take_le' ..
      exact small1000 (by omega)
    · rw [upd_upd, take_at hj, List.map_append, List.map_append]
      rfl
  · rintro H' rfl
    rw [nats_len, List.take_length]
    exact hq
section
variable {P : Program} {w : World} {K : PySem.W.Frag} {mg : Str → Option Value} {base : Heap} {a : Ad}
/-- a number of a tour -/
def spT (a : Ad) (K : PySem.W.Frag) (v : Sr120.Workshop → List Nat → Nat) : Sp := fun vs H Q _ => ∃ (l t : Addr) (ws : Sr120.Workshop) (tour : List Nat), vs = [.ref l, .ref t] ∧ Fleet a.c_Machine H l ws ∧ SqL K H t (nats tour) ∧ (∀ i ∈ tour, i < ws.length) ∧ tour.length ≤ 100 ∧
  ∀ H', Same H H' → Q (.int (v ws tour : Nat)) H'
/-! ### Machine.own_time(self) -/
def spOwn (a : Ad) : Sp := fun vs H Q _ => ∃ (p dx : Addr) (m : Sr120.Machine), vs = [.ref p] ∧ H p = some (.ins a.c_Machine dx (mF m)) ∧ Q (.int ((m.runTime : Int) + m.serviceTime)) H
theorem sc_own : FnScope ["self"] ["self"] (defScope s_Machine_own_time) := ⟨rfl, rfl, rfl, by decide +kernel, rfl, by decide +kernel, by decide +kernel⟩
theorem ok_own (T : Txt K mg a) : Kept P w K mg base CX0 1 a.f_Machine_own_time ["self"] (spOwn a) := by
  obtain ⟨fd, F⟩ := T.r.d_Machine_own_time
  refine ⟨fd, F.ok sc_own (fun vs H Q E h => ?_) (fun cdv A outer s H vs Q E hr h => ?_), F.binds fun _ _ _ _ _ _ us hl => match us, hl with | [_], _ => rfl, F.kp⟩
  · obtain ⟨p, dx, m, rfl, _⟩ := h
    rfl
  · refine ⟨_, pss_one (ps_ret (pe_op op_add (pe_fld (pv 0) rfl) (pe_fld (pv 0) rfl))), ?_⟩
    obtain ⟨p, dx, m, rfl, hp, k⟩ := h
    exact ⟨_, rfl, p, _, dx, _, _, rfl, hp, T.r.c_Machine.cl, T.r.a_Machine_run_time, mF_run _, _, rfl, p, _, dx, _, _, rfl, hp, T.r.c_Machine.cl, T.r.a_Machine_service_time, mF_ser _, _, _, rfl, rfl, k⟩
theorem at_own (T : Txt K mg a) : Meth K a.c_Machine "own_time" a.f_Machine_own_time := by
  obtain ⟨fd, F⟩ := T.r.d_Machine_own_time
  exact meth_mk T.r.m_Machine_own_time T.r.y_Machine_own_time F
/-! ### find_service_sum(machines, members) -/
theorem sc_service : FnScope ["machines", "members", "i"] ["machines", "members"] (defScope s_find_service_sum) := ⟨rfl, rfl, rfl, by decide +kernel, rfl, by decide +kernel, by decide +kernel⟩
theorem ok_service (T : Txt K mg a) : Kept P w K mg base CX0 1 a.f_find_service_sum ["machines", "members"] (spT a K Tw.service) := by
  obtain ⟨fd, F⟩ := T.r.d_find_service_sum
  refine ⟨fd, F.ok sc_service (fun vs H Q E h => ?_) (fun cdv A outer s H vs Q E hr h => ?_), F.binds fun _ _ _ _ _ _ us hl => match us, hl with | [_, _], _ => rfl, F.kp⟩
  · obtain ⟨l, t, ws, tour, rfl, _⟩ := h
    rfl
  · refine ⟨_, pss_one (ps_ret (pe_callB (cr_sum rfl) (by rfl) (T.z T.r.z_sum) (by decide +kernel) (by exact (pa_cons (pe_lc (te := tFld K (tOp (rIxL K) (tVar 0) (tVar 2)) "service_time") (own := [("i", 2)]) (g := gName 2) (tt := tYes) rfl sc_service.nd (pi_list (pv 1))
      (blkOk_by (N := ["machines", "members", "i"]) (sc := defScope s_find_service_sum) (by decide +kernel)) (fun _ _ _ _ _ => by exact (pg_name (i := 2) sc_service.nd rfl (Or.inl rfl))) (fun _ _ _ _ _ => pts_nil) (fun _ _ _ _ _ => by exact (pe_fld (pe_ix ix_list (pv 0) (pv 2) (fun _ _ => rfl)) rfl))) pa_nil)))), ?_⟩
    obtain ⟨l, t, ws, tour, rfl, hF, hT, hi, hlen, k⟩ := h
    refine ⟨_, rfl, t, rfl, ⟨_, hT⟩, fun D hD => lc_map (fun j => ((Sr120.machineAt ws j).serviceTime : Nat)) hD hT hlen (fun _ => rfl) (fun j hj H' S Q' q => ?_) ?_⟩
    · obtain ⟨xs, p, dx, e1, e2, e3⟩ := (hF.same S).at (hi j hj)
      exact ⟨_, rfl, _, rfl, l, xs, _, _, rfl, rfl, .of e1, e2, p, _, dx, _, _, rfl, e3, T.r.c_Machine.cl, T.r.a_Machine_service_time, mF_ser _, q⟩
    · refine ⟨D, _, rfl, .of upd_same, ?_⟩
      rw [Tw.service_cast]
      exact k _ (same_new hD)
end
end Tp

set_option maxRecDepth 100000
set_option maxHeartbeats 4000000
namespace Tw
open Sr120
theorem max_if (a b : Nat) : (if (b : Int) > (a : Int) then (b : Int) else (a : Int)) = ((max a b : Nat) : Int) := by
  split <;> omega
theorem foldl_max_int (f : Nat → Nat) : ∀ (l : List Nat) (n : Nat), (l.map fun j => ((f j : Nat) : Int)).foldl max (n : Int) = (((l.map f).foldl max n : Nat) : Int)
  | [], _ => rfl
  | x :: r, n => by
    rw [List.map_cons, List.foldl_cons, List.map_cons, List.foldl_cons, ← foldl_max_int f r (max n (f x))]
    have e : max (n : Int) ((f x : Nat) : Int) = ((max n (f x) : Nat) : Int) := by omega
    rw [e]
theorem longest_cons (w : Workshop) (i : Nat) (r : List Nat) : longestMachineCycle w (i :: r) = (r.map fun j => (machineAt w j).runTime + (machineAt w j).serviceTime).foldl max ((machineAt w i).runTime + (machineAt w i).serviceTime) := by
  unfold longestMachineCycle
  rw [List.map_cons, List.foldl_cons, Nat.zero_max]
theorem closed_nil (w : Workshop) : closed w [] = 0 := rfl
end Tw
namespace Tp
open PySem PySem.Spec PyProof.Rows L2 TwX TwY
theorem qint {Q : V → Hp → Prop} {H : Hp} {i j : Int} (e : i = j) (h : Q (.int j) H) : Q (.int i) H := e ▸ h
section
variable {P : Program} {w : World} {K : PySem.W.Frag} {mg : Str → Option Value} {base : Heap} {a : Ad}
/-! ### find_busy_time(machines, tour) -/
theorem sc_busy : FnScope ["machines", "tour"] ["machines", "tour"] (defScope s_find_busy_time) := ⟨rfl, rfl, rfl, by decide +kernel, rfl, by decide +kernel, by decide +kernel⟩
theorem ok_busy (T : Txt K mg a) : Kept P w K mg base CX0 4 a.f_find_busy_time ["machines", "tour"] (spT a K Sr120.busyTime) := by
  obtain ⟨fd, F⟩ := T.r.d_find_busy_time
  obtain ⟨f1, F1, b1, k1⟩ := (ok_service (P := P) (w := w) (base := base) T).ex
  obtain ⟨f2, F2, b2, k2⟩ := (ok_walk (P := P) (w := w) (base := base) T).ex
  refine ⟨fd, F.ok sc_busy (fun vs H Q E h => ?_) (fun cdv A outer s H vs Q E hr h => ?_), F.binds fun _ _ _ _ _ _ us hl => match us, hl with | [_, _], _ => rfl, F.kp⟩
  · obtain ⟨l, t, ws, tour, rfl, _⟩ := h
    rfl
  · refine ⟨_, pss_one (ps_ret (pe_op op_add (pe_call F1 (hr.mono (by decide)) rfl (T.g T.r.n_find_service_sum) k1 b1 .nil pass0 (pa_cons (pv 0) (pa_cons (pv 1) pa_nil)))
      (pe_call F2 hr rfl (T.g T.r.n_find_walking_time) k2 b2 .nil pass0 (pa_cons (pv 0) (pa_cons (pv 1) pa_nil))))), ?_⟩
    obtain ⟨l, t, ws, tour, rfl, hF, hT, hi, hlen, k⟩ := h
    refine ⟨_, rfl, _, rfl, l, t, ws, tour, rfl, hF, hT, hi, hlen, fun H1 S1 => ⟨_, rfl, _, rfl, l, t, ws, tour, rfl, hF.same S1, S1.seq hT, hi, hlen, _, _, rfl, rfl, ?_⟩⟩
    exact qint (Q := Q) (Int.natCast_add _ _).symm (k H1 S1)
/-! ### find_longest_own_time(machines, members) -/
theorem sc_longest : FnScope ["machines", "members", "i"] ["machines", "members"] (defScope s_find_longest_own_time) := ⟨rfl, rfl, rfl, by decide +kernel, rfl, by decide +kernel, by decide +kernel⟩
theorem ok_longest (T : Txt K mg a) : Kept P w K mg base CX0 2 a.f_find_longest_own_time ["machines", "members"] (spT a K Sr120.longestMachineCycle) := by
  obtain ⟨fd, F⟩ := T.r.d_find_longest_own_time
  obtain ⟨f1, F1, b1, k1⟩ := (ok_own (P := P) (w := w) (base := base) T).ex
  refine ⟨fd, F.ok sc_longest (fun vs H Q E h => ?_) (fun cdv A outer s H vs Q E hr h => ?_), F.binds fun _ _ _ _ _ _ us hl => match us, hl with | [_, _], _ => rfl, F.kp⟩
  · obtain ⟨l, t, ws, tour, rfl, _⟩ := h
    rfl
  · refine ⟨_, pss_one (ps_ret (pe_callBK (cr_maxElse rfl (hu_of hr)) (by rfl) (T.z T.r.z_max) (by decide +kernel) (by exact (pa_cons (pe_lc (te := tMeth a.c_Machine "own_time" (spOwn a) [] E0 (tOp (rIxL K) (tVar 0) (tVar 2)) tNil) (own := [("i", 2)]) (g := gName 2) (tt := tYes) rfl sc_longest.nd (pi_list (pv 1))
      (blkOk_by (N := ["machines", "members", "i"]) (sc := defScope s_find_longest_own_time) (by decide +kernel)) (fun _ _ _ _ _ => by exact (pg_name (i := 2) sc_longest.nd rfl (Or.inl rfl))) (fun _ _ _ _ _ => pts_nil)
      (fun _ _ _ _ _ => by exact (pe_meth0 (pe_ix ix_list (pv 0) (pv 2) (fun _ _ => rfl)) T.r.c_Machine.cl (at_own T) F1 (by exact hr) b1 .nil pass0))) pa_nil)) (by exact (pk_cons pe_int pk_nil)))), ?_⟩
    obtain ⟨l, t, ws, tour, rfl, hF, hT, hi, hlen, k⟩ := h
    refine ⟨_, rfl, t, rfl, ⟨_, hT⟩, fun D hD => lc_map (fun j => ((Sr120.machineAt ws j).runTime : Int) + (Sr120.machineAt ws j).serviceTime) hD hT hlen (fun _ => rfl) (fun j hj H' S Q' q => ?_) ?_⟩
    · obtain ⟨xs, p, dx, e1, e2, e3⟩ := (hF.same S).at (hi j hj)
      exact ⟨_, rfl, _, rfl, l, xs, _, _, rfl, rfl, .of e1, e2, p, dx, _, rfl, e3, mF_own _, p, dx, _, rfl, e3, q⟩
    · refine ⟨D, _, 0, rfl, rfl, .of upd_same, fun e => ?_, fun n r e => ?_⟩
      · rw [List.map_eq_nil_iff] at e
        subst e
        exact k _ (same_new hD)
      · cases tour with
        | nil => cases e
        | cons i r2 =>
          rw [List.map_cons] at e
          cases e
          exact qint (Q := Q) ((Tw.foldl_max_int (fun j => (Sr120.machineAt ws j).runTime + (Sr120.machineAt ws j).serviceTime) r2 _).trans (congrArg Nat.cast (Tw.longest_cons ws i r2).symm)) (k _ (same_new hD))
end
end Tp

set_option maxRecDepth 100000
set_option maxHeartbeats 4000000
namespace Tw
open Sr120
theorem hi_eq {w : Workshop} {t : List Nat} {m : Int} (ht : t ≠ []) (hm : m ∈ t.map fun j => (((machineAt w j).position : Nat) : Int)) (hle : ∀ y, y ∈ (t.map fun j => (((machineAt w j).position : Nat) : Int)) → y ≤ m) : m = ((hi w t : Nat) : Int) := by
  obtain ⟨j, hj, rfl⟩ := List.mem_map.mp hm
  obtain ⟨x, hx, e⟩ := hi_is w t ht
  have h1 := hi_ge w t j hj
  have h2 := hle _ (List.mem_map.mpr ⟨x, hx, rfl⟩)
  have e : hi w t = (machineAt w x).position := e
  have h1 : (machineAt w j).position ≤ hi w t := h1
  omega
theorem lo_eq {w : Workshop} {t : List Nat} {m : Int} (ht : t ≠ []) (hm : m ∈ t.map fun j => (((machineAt w j).position : Nat) : Int)) (hle : ∀ y, y ∈ (t.map fun j => (((machineAt w j).position : Nat) : Int)) → m ≤ y) : m = ((lo w t : Nat) : Int) := by
  obtain ⟨j, hj, rfl⟩ := List.mem_map.mp hm
  obtain ⟨x, hx, e⟩ := lo_is w t ht
  have h1 := lo_le w t j hj
  have h2 := hle _ (List.mem_map.mpr ⟨x, hx, rfl⟩)
  have e : lo w t = (machineAt w x).position := e
  have h1 : lo w t ≤ (machineAt w j).position := h1
  omega
theorem lo_le_hi {w : Workshop} {t : List Nat} (ht : t ≠ []) : lo w t ≤ hi w t := by
  obtain ⟨x, hx, e⟩ := hi_is w t ht
  have := lo_le w t x hx
  omega
theorem closed_int {w : Workshop} {t : List Nat} (ht : t ≠ []) : (if ((longestMachineCycle w t : Nat) : Int) > ((service w t : Nat) : Int) + 2 * (((hi w t : Nat) : Int) - ((lo w t : Nat) : Int)) then ((longestMachineCycle w t : Nat) : Int)
    else ((service w t : Nat) : Int) + 2 * (((hi w t : Nat) : Int) - ((lo w t : Nat) : Int))) = ((closed w t : Nat) : Int) := by
  have h := lo_le_hi (w := w) ht
  unfold closed
  split <;> omega
end Tw
namespace Tp
open PySem PySem.Spec PyProof.Rows L2 TwX TwY
section
variable {P : Program} {w : World} {K : PySem.W.Frag} {mg : Str → Option Value} {base : Heap} {a : Ad}
/-! ### find_cycle_time(machines, tour) -/
theorem sc_cycle : FnScope ["machines", "tour"] ["machines", "tour"] (defScope s_find_cycle_time) := ⟨rfl, rfl, rfl, by decide +kernel, rfl, by decide +kernel, by decide +kernel⟩
theorem ok_cycle (T : Txt K mg a) : Kept P w K mg base CX0 5 a.f_find_cycle_time ["machines", "tour"] (spT a K Sr120.cycleTime) := by
  obtain ⟨fd, F⟩ := T.r.d_find_cycle_time
  obtain ⟨f1, F1, b1, k1⟩ := (ok_busy (P := P) (w := w) (base := base) T).ex
  obtain ⟨f2, F2, b2, k2⟩ := (ok_longest (P := P) (w := w) (base := base) T).ex
  refine ⟨fd, F.ok sc_cycle (fun vs H Q E h => ?_) (fun cdv A outer s H vs Q E hr h => ?_), F.binds fun _ _ _ _ _ _ us hl => match us, hl with | [_, _], _ => rfl, F.kp⟩
  · obtain ⟨l, t, ws, tour, rfl, _⟩ := h
    rfl
  · refine ⟨_, pss_one (ps_ret (pe_callB (call_max2 rfl) (by rfl) (T.z T.r.z_max) (by decide +kernel) (pa_cons (pe_call F1 hr rfl (T.g T.r.n_find_busy_time) k1 b1 .nil pass0 (pa_cons (pv 0) (pa_cons (pv 1) pa_nil)))
      (pa_cons (pe_call F2 (hr.mono (by decide)) rfl (T.g T.r.n_find_longest_own_time) k2 b2 .nil pass0 (pa_cons (pv 0) (pa_cons (pv 1) pa_nil))) pa_nil)))), ?_⟩
    obtain ⟨l, t, ws, tour, rfl, hF, hT, hi, hlen, k⟩ := h
    refine ⟨_, rfl, _, rfl, l, t, ws, tour, rfl, hF, hT, hi, hlen, fun H1 S1 => ⟨_, rfl, _, rfl, l, t, ws, tour, rfl, hF.same S1, S1.seq hT, hi, hlen, fun H2 S2 => ⟨_, _, rfl, ?_⟩⟩⟩
    exact qint (Q := Q) (Tw.max_if _ _) (k H2 (S1.trans S2))
/-! ### find_min_cycle_time(machines, members) -/
theorem sc_mincycle : FnScope ["machines", "members", "positions", "least_walked", "least_busy", "i"] ["machines", "members"] (defScope s_find_min_cycle_time) := ⟨rfl, rfl, rfl, by decide +kernel, rfl, by decide +kernel, by decide +kernel⟩
theorem ok_mincycle (T : Txt K mg a) : Kept P w K mg base CX0 3 a.f_find_min_cycle_time ["machines", "members"] (spT a K Tw.closed) := by
  obtain ⟨fd, F⟩ := T.r.d_find_min_cycle_time
  obtain ⟨f1, F1, b1, k1⟩ := (ok_service (P := P) (w := w) (base := base) T).ex
  obtain ⟨f2, F2, b2, k2⟩ := (ok_longest (P := P) (w := w) (base := base) T).ex
  refine ⟨fd, F.ok sc_mincycle (fun vs H Q E h => ?_) (fun cdv A outer s H vs Q E hr h => ?_), F.binds fun _ _ _ _ _ _ us hl => match us, hl with | [_, _], _ => rfl, F.kp⟩
  · obtain ⟨l, t, ws, tour, rfl, _⟩ := h
    rfl
  · refine ⟨_, pss_cons (ps_if (pt_cmpR op_eq (pe_callB call_len_seq (by rfl) (T.z T.r.z_len) PySem.boot_len (pa_cons (pv 1) pa_nil)) pe_int (nomark _)) (pss_one (ps_ret pe_int)) pss_nil)
      (pss_cons (ps_setLc (i := 2) (te := tFld K (tOp (rIxL K) (tVar 0) (tVar 5)) "position") (own := [("i", 5)]) (g := gName 5) (tt := tYes) rfl sc_mincycle.nd rfl rfl (sw_true rfl rfl rfl (by decide +kernel)) (pi_list (pv 1))
        (blkOk_by (N := ["machines", "members", "positions", "least_walked", "least_busy", "i"]) (sc := defScope s_find_min_cycle_time) (by decide +kernel)) (fun _ _ _ _ _ => by exact (pg_name (i := 5) sc_mincycle.nd rfl (Or.inl rfl))) (fun _ _ _ _ _ => pts_nil) (fun _ _ _ _ _ => by exact (pe_fld (pe_ix ix_list (pv 0) (pv 5) (fun _ _ => rfl)) rfl)))
      (pss_cons (ps_set (i := 3) sc_mincycle.nd rfl (.inl rfl) (pe_op op_mul pe_int (pe_op op_sub (pe_callB (cr_max rfl) (by rfl) (T.z T.r.z_max) (by decide +kernel) (pa_cons (pv 2) pa_nil)) (pe_callB (cr_min rfl) (by rfl) (T.z T.r.z_min) (by decide +kernel) (pa_cons (pv 2) pa_nil)))))
      (pss_cons (ps_set (i := 4) sc_mincycle.nd rfl (.inl rfl) (pe_op op_add (pe_call F1 (hr.mono (by decide)) rfl (T.g T.r.n_find_service_sum) k1 b1 .nil pass0 (pa_cons (pv 0) (pa_cons (pv 1) pa_nil))) (pv 3)))
      (pss_one (ps_ret (pe_callB (call_max2 rfl) (by rfl) (T.z T.r.z_max) (by decide +kernel) (pa_cons (pv 4) (pa_cons (pe_call F2 hr rfl (T.g T.r.n_find_longest_own_time) k2 b2 .nil pass0 (pa_cons (pv 0) (pa_cons (pv 1) pa_nil))) pa_nil)))))))), ?_⟩
    obtain ⟨l, t, ws, tour, rfl, hF, hT, hi, hlen, k⟩ := h
    refine ⟨_, rfl, t, _, rfl, .inl hT, rfl, _, rfl, ite2 (fun c => ?_) (fun c => ?_)⟩
    · have c := of_decide_eq_true c
      rw [nats_len] at c
      cases tour with
      | nil => exact k H (Same.refl H)
      | cons i r =>
        injection c with c
        simp at c
        omega
    · have ht : tour ≠ [] := fun e => by
        subst e
        exact c rfl
      have hpos : 0 < (tour.map fun j => (((Sr120.machineAt ws j).position : Nat) : Int)).length := by
        rw [List.length_map]
        exact List.length_pos_iff.mpr ht
      refine ⟨_, rfl, t, rfl, ⟨_, hT⟩, fun D hD => lc_map (fun j => ((Sr120.machineAt ws j).position : Nat)) hD hT hlen (fun _ => rfl) (fun j hj H' S Q' q => ?_) ?_⟩
      · obtain ⟨xs, p, dx, e1, e2, e3⟩ := (hF.same S).at (hi j hj)
        exact ⟨_, rfl, _, rfl, l, xs, _, _, rfl, rfl, .of e1, e2, p, _, dx, _, _, rfl, e3, T.r.c_Machine.cl, T.r.a_Machine_position, mF_pos _, q⟩
      · have S0 := same_new (o := HO.lst ((tour.map fun j => (((Sr120.machineAt ws j).position : Nat) : Int)).map V.int)) hD
        refine ⟨_, rfl, D, _, rfl, .of upd_same, hpos, fun m hm hle => ⟨_, rfl, D, _, rfl, .of upd_same, hpos, fun n hn hge => ⟨_, _, rfl, rfl, _, _, rfl, rfl, .inl ⟨by decide, by decide⟩, ?_⟩⟩⟩
        rw [Tw.hi_eq ht hm hle, Tw.lo_eq ht hn hge]
        refine ⟨_, rfl, _, rfl, l, t, ws, tour, rfl, hF.same S0, S0.seq hT, hi, hlen, fun H1 S1 => ⟨_, rfl, _, _, rfl, rfl, _, rfl, _, rfl, _, rfl, l, t, ws, tour, rfl, (hF.same S0).same S1, S1.seq (S0.seq hT), hi, hlen, fun H2 S2 => ⟨_, _, rfl, ?_⟩⟩⟩
        exact qint (Q := Q) (Tw.closed_int ht) (k H2 (S0.trans (S1.trans S2)))
end
end Tp

set_option maxRecDepth 100000
set_option maxHeartbeats 4000000
namespace Tp
open PySem PySem.Spec PyProof.Rows L2 TwX TwY
theorem nats_ints (l : List Nat) : (l.map fun (j : Nat) => (j : Int)).map V.int = nats l := List.map_map
theorem nats_drop (l : List Nat) (k : Nat) : (nats l).drop k = nats (l.drop k) := (List.map_drop ..).symm
theorem nats_take (l : List Nat) (k : Nat) : (nats l).take k = nats (l.take k) := (List.map_take ..).symm
theorem cut_drop (l : List Nat) (k : Nat) : cutV (nats l) (some (k : Int)) none = nats (l.drop k) := by
  unfold cutV
  rw [HT.sIx_nat, HT.sIx_none, nats_drop, nats_take, nats_len]
  congr 1
  rw [List.take_of_length_le (by rw [List.length_drop]; omega)]
  rcases Nat.le_total k l.length with c | c
  · rw [Nat.min_eq_left c]
  · rw [Nat.min_eq_right c, List.drop_eq_nil_of_le c, List.drop_eq_nil_of_le (Nat.le_refl _)]
theorem cut_take (l : List Nat) (k : Nat) : cutV (nats l) none (some (k : Int)) = nats (l.take k) := by
  unfold cutV
  rw [HT.sIx_nat, HT.sIx_none, List.drop_zero, nats_take, nats_len]
  congr 1
  rw [Nat.sub_zero]
  rcases Nat.le_total k l.length with c | c
  · rw [Nat.min_eq_left c]
  · rw [Nat.min_eq_right c, List.take_of_length_le (Nat.le_refl _), List.take_of_length_le c]
theorem nats_app (l r : List Nat) : nats (l ++ r) = nats l ++ nats r := List.map_append
theorem ne_bool (i j : Nat) : (!decide (V.int (i : Nat) = V.int (j : Nat))) = (i != j) := by
  rw [dec_int]
  show (!(((i : Nat) : Int) == ((j : Nat) : Int))) = !(i == j)
  congr 1
  rw [Bool.eq_iff_iff, beq_iff_eq, beq_iff_eq]
  omega
theorem lt_bool (i j : Nat) : decide (((i : Nat) : Int) < ((j : Nat) : Int)) = decide (i < j) := by
  rw [decide_eq_decide]
  omega
theorem qbool {Q : Bool → Hp → Prop} {H : Hp} {b c : Bool} (e : b = c) (h : Q c H) : Q b H := e ▸ h
/-- a comprehension that keeps some of the numbers -/
theorem lc_keep {K : PySem.W.Frag} {t : Addr} {tour : List Nat} {tt : TT} {vs : List Nat} {i : Nat} {σ : L2.St} {H : Hp} {D : Addr} {Qd : Hp → Prop} (p : Nat → Bool) (hD : H D = none) (hT : SqL K H t (nats tour)) (hlen : tour.length ≤ 100)
    (hv : ∀ x, wipe ((wipe σ vs).set i (some x)) vs = wipe σ vs) (hi : ∀ x, ((wipe σ vs).set i (some x))[i]? = some (some x)) (ht : ∀ j ∈ tour, ∀ H', Same H H' → ∀ Q : Bool → Hp → Prop, Q (p j) H' → tt ((wipe σ vs).set i (some (.int (j : Nat)))) H' Q)
    (hq : Qd (upd H D (.lst (nats (tour.filter p))))) :
    ∃ W : Nat → Nat → Hp → Prop, (∃ m, W 0 m (upd H D (.lst []))) ∧ ∀ i2 m H2, W i2 m H2 →
      ((Itl K t).stop i2 H2 ∧ Qd H2) ∨ ((Itl K t).go i2 H2 ∧ ∃ Nx : Hp → Prop, (∀ H', Nx H' → ∃ m', m' < m ∧ W (i2 + 1) m' H') ∧
        ∀ x H', (Itl K t).yld i2 H2 x H' → gName i x (wipe σ vs) H' fun σ2 H2 => wipe σ2 vs = wipe σ vs ∧ tt σ2 H2 fun b H3 =>
          if b = true then tVar i σ2 H3 fun y H4 => ∃ acc, H4 D = some (.lst acc) ∧ acc.length < sizeLine ∧ Nx (upd H4 D (.lst (acc ++ [y]))) else Nx H3) := by
  refine lc_list (xs := nats tour) (fun i H' => H' = upd H D (.lst (nats ((tour.take i).filter p)))) rfl ?_ ?_ ?_
  · rintro k H' _ rfl
    exact (same_new hD).seq hT
  · rintro k x H' hx rfl
    obtain ⟨j, hj, hm, rfl⟩ := nats_at hx
    refine ⟨hv _, ht j hm _ (same_new hD) _ ?_⟩
    cases c : p j with
    | true =>
      rw [if_pos rfl]
      refine ⟨_, hi _, _, upd_same, ?_, ?_⟩
      · rw [nats_len]
        have h1 : (tour.take k).length ≤ tour.length := List.length_take_le' ..
        have h2 : ((tour.take k).filter p).length ≤ (tour.take k).length := List.length_filter_le ..
        exact small1000 (by omega)
      · rw [upd_upd, take_at hj, List.filter_append, List.filter_cons_of_pos c]
        unfold nats
        rw [List.map_append]
        rfl
    | false =>
      rw [if_neg Bool.false_ne_true, take_at hj, List.filter_append, List.filter_cons_of_neg (by rw [c]; exact Bool.false_ne_true), List.filter_nil, List.append_nil]
  · rintro H' rfl
    rw [nats_len, List.take_length]
    exact hq
section
variable {P : Program} {w : World} {K : PySem.W.Frag} {mg : Str → Option Value} {base : Heap} {a : Ad}
/-! ### find_next_order(order); slots: order, turn, larger, rest, i -/
def spNext (K : PySem.W.Frag) : Sp := fun vs H Q _ => ∃ (t : Addr) (o : List Nat), vs = [.ref t] ∧ SqL K H t (nats o) ∧ Tw.turns o = true ∧ o.length ≤ 6 ∧
  ∀ H' r, Same H H' → H r = none → H' r = some (.lst (nats (Tw.next o))) → Q (.ref r) H'
theorem sc_next : FnScope ["order", "turn", "larger", "rest", "i"] ["order"] (defScope s_find_next_order) := ⟨rfl, rfl, rfl, by decide +kernel, rfl, by decide +kernel, by decide +kernel⟩
theorem ok_next (T : Txt K mg a) : Kept P w K mg base CX0 1 a.f_find_next_order ["order"] (spNext K) := by
  obtain ⟨fd, F⟩ := T.r.d_find_next_order
  refine ⟨fd, F.ok sc_next (fun vs H Q E h => ?_) (fun cdv A outer s H vs Q E hr h => ?_), F.binds fun _ _ _ _ _ _ us hl => match us, hl with | [_], _ => rfl, F.kp⟩
  · obtain ⟨t, o, rfl, _⟩ := h
    rfl
  · refine ⟨_, pss_cons (ps_set (i := 1) sc_next.nd rfl (.inr rfl) (pe_op op_sub (pe_callB call_len_seq (by rfl) (T.z T.r.z_len) PySem.boot_len (pa_cons (pv 0) pa_nil)) pe_int))
      (pss_cons (ps_while PassesOwn.never (pt_cmpR op_gt (pe_ix ix_list (pv 0) (pv 1) (fun _ _ => rfl)) (pe_ix ix_list (pv 0) (pe_op op_add (pv 1) pe_int) (fun _ _ => rfl)) (nomark _))
        (pss_one (ps_aug (i := 1) sc_next.nd rfl (.inr rfl) pe_int ip_sub)))
      (pss_cons (ps_set (i := 2) sc_next.nd rfl (.inr rfl) (pe_callB (cr_min rfl) (by rfl) (T.z T.r.z_min) (by decide +kernel) (by exact (pa_cons (pe_lc (te := tVar 4) (tt := tTest (tOp (rI0 fun i j => .bl (decide (j < i))) (tVar 4) (tOp (rIxL K) (tVar 0) (tVar 1)))) (own := [("i", 4)]) (g := gName 4) rfl sc_next.nd
          (pi_list (pe_slice sl_list (pv 0) (po_some (pe_op op_add (pv 1) pe_int)) po_none))
          (blkOk_by (N := ["order", "turn", "larger", "rest", "i"]) (sc := defScope s_find_next_order) (by decide +kernel)) (fun _ _ _ _ _ => by exact (pg_name (i := 4) sc_next.nd rfl (Or.inl rfl)))
          (fun _ _ _ _ _ => by exact (pts_one (pt_cmpR op_gt (pv 4) (pe_ix ix_list (pv 0) (pv 1) (fun _ _ => rfl)) (nomark _)))) (fun _ _ _ _ _ => by exact (pv 4))) pa_nil))))
      (pss_cons (ps_set (i := 3) sc_next.nd rfl (.inl rfl) (pe_callB cr_sorted (by rfl) (T.z T.r.z_sorted) (by decide +kernel) (by exact (pa_cons (pe_lc (te := tVar 4) (tt := tTest (tOp rNe (tVar 4) (tVar 2))) (own := [("i", 4)]) (g := gName 4) rfl sc_next.nd
          (pi_list (pe_slice sl_list (pv 0) (po_some (pv 1)) po_none))
          (blkOk_by (N := ["order", "turn", "larger", "rest", "i"]) (sc := defScope s_find_next_order) (by decide +kernel)) (fun _ _ _ _ _ => by exact (pg_name (i := 4) sc_next.nd rfl (Or.inl rfl)))
          (fun _ _ _ _ _ => by exact (pts_one (pt_cmpR op_ne (pv 4) (pv 2) (nomark _)))) (fun _ _ _ _ _ => by exact (pv 4))) pa_nil))))
      (pss_one (ps_ret (pe_op op_cat (pe_op op_cat (pe_slice sl_list (pv 0) po_none (po_some (pv 1))) (pe_lst (pa_cons (pv 2) pa_nil))) (pv 3))))))), ?_⟩
    obtain ⟨t, o, rfl, hT, ht, hlen, k⟩ := h
    obtain ⟨q1, q2⟩ := Tw.turns_parts ht
    refine ⟨_, rfl, t, _, rfl, .inl hT, _, _, rfl, rfl, ?_⟩
    have e2 : ((o.length : Nat) : Int) - 2 = ((o.length - 2 : Nat) : Int) := by omega
    refine ⟨fun m σ H' => H' = H ∧ σ = [some (.ref t), some (.int (m : Nat)), none, none, none] ∧ Tw.turnAt o m = Tw.turnAt o (o.length - 2) ∧ m + 1 < o.length, ⟨o.length - 2, rfl, ?_, rfl, by omega⟩, ?_⟩
    · rw [nats_len]
      exact congrArg (fun z => [_, some (V.int z), _, _, _]) e2
    · rintro m σ H' ⟨rfl, rfl, hm, hl⟩
      refine ⟨_, rfl, _, rfl, t, _, _, _, rfl, rfl, hT, atI_nat (nats_get (by omega)), _, rfl, _, rfl, _, _, rfl, rfl, t, _, _, _, rfl, rfl, hT, (show atI (nats o) ((m + 1 : Nat) : Int) = _ from atI_nat (nats_get hl)), _, _, rfl, rfl, _, rfl, ite2 (fun c => ?_) (fun c => ?_)⟩
      · have c := of_decide_eq_true c
        cases m with
        | zero =>
          rw [← hm] at q2
          have q2 : o.getD 0 0 < o.getD (0 + 1) 0 := q2
          omega
        | succ n =>
          have c2 : o.getD (n + 1) 0 > o.getD (n + 1 + 1) 0 := by omega
          refine ⟨_, fun σ' H' h => ⟨n, Nat.lt_succ_self n, h⟩, _, rfl, _, _, rfl, rfl, rfl, ?_, ?_, by omega⟩
          · have e3 : ((n + 1 : Nat) : Int) - 1 = (n : Nat) := by omega
            exact congrArg (fun z => [_, some (V.int z), _, _, _]) e3
          · rw [← hm]
            exact (if_pos c2).symm
      · have c : ¬ (((o.getD (m + 1) 0 : Nat) : Int) < ((o.getD m 0 : Nat) : Int)) := fun z => c (decide_eq_true z)
        have eT : Tw.turnAt o (o.length - 2) = m := by
          rw [← hm]
          cases m with
          | zero => rfl
          | succ n => exact if_neg (fun z => c (by have z : o.getD (n + 1) 0 > o.getD (n + 1 + 1) 0 := z; omega))
        rw [eT] at q1 q2
        refine ⟨_, rfl, _, rfl, _, _, rfl, rfl, _, rfl, t, _, rfl, hT, fun p1 n1 => ?_⟩
        have hne := Tw.larger_some q1 q2
        have S1 := same_new (o := HO.lst (cutV (nats o) (some ((m : Int) + 1)) none)) n1
        have T1 : SqL K (upd H' p1 (.lst (cutV (nats o) (some ((m : Int) + 1)) none))) p1 (nats (o.drop (m + 1))) := .of (upd_same.trans (congrArg (fun z => some (HO.lst z)) (cut_drop o (m + 1))))
        refine ⟨_, rfl, ⟨_, T1⟩, fun d1 nd1 => lc_keep (fun i => decide (o.getD m 0 < i)) nd1 T1 (by rw [List.length_drop]; omega) (fun _ => rfl) (fun _ => rfl) (fun j _ H' S Q' q => ?_) ?_⟩
        · exact ⟨_, rfl, _, rfl, _, rfl, t, _, _, _, rfl, rfl, S.seq (S1.seq hT), atI_nat (nats_get (by omega)), _, _, rfl, rfl, _, rfl, qbool (Q := Q') (lt_bool _ _) q⟩
        · have S2 := S1.trans (same_new (o := HO.lst (nats ((o.drop (m + 1)).filter fun i => decide (o.getD m 0 < i)))) nd1)
          refine ⟨d1, _, rfl, .of (upd_same.trans (congrArg (fun z => some (HO.lst z)) (nats_ints _).symm)), by rw [List.length_map]; exact List.length_pos_iff.mpr hne, fun mm hm1 hm2 => ?_⟩
          have eL := Tw.least_int hm1 hm2
          subst eL
          refine ⟨_, rfl, _, rfl, _, rfl, t, _, rfl, S2.seq hT, fun p2 n2 => ?_⟩
          have S3 := S2.trans (same_new (o := HO.lst (cutV (nats o) (some (m : Int)) none)) n2)
          refine ⟨_, rfl, ⟨nats (o.drop m), .of (upd_same.trans (congrArg (fun z => some (HO.lst z)) (cut_drop o m)))⟩, fun d2 nd2 => lc_keep (fun i => i != Tw.larger o m) nd2 (.of (upd_same.trans (congrArg (fun z => some (HO.lst z)) (cut_drop o m)))) (by rw [List.length_drop]; omega)
            (fun _ => rfl) (fun _ => rfl) (fun j _ H2 S Q' q => ?_) ?_⟩
          · exact ⟨_, rfl, _, rfl, rfl, _, rfl, qbool (Q := Q') (ne_bool _ _) q⟩
          · have S4 := S3.trans (same_new (o := HO.lst (nats ((o.drop m).filter fun i => i != Tw.larger o m))) nd2)
            refine ⟨d2, _, rfl, .of (upd_same.trans (congrArg (fun z => some (HO.lst z)) (nats_ints _).symm)), ?_, fun ns' p3 perm rising n3 => ?_⟩
            · rw [List.length_map]
              have h1 : ((o.drop m).filter fun i => i != Tw.larger o m).length ≤ (o.drop m).length := List.length_filter_le ..
              rw [List.length_drop] at h1
              omega
            · have eN := Tw.sorted_isort perm rising
              subst eN
              have S5 := S4.trans (same_new (o := HO.lst (((Tw.isort ((o.drop m).filter fun i => i != Tw.larger o m)).map fun (j : Nat) => (j : Int)).map V.int)) n3)
              refine ⟨_, rfl, _, rfl, _, rfl, t, _, rfl, S5.seq hT, fun p4 n4 => ⟨_, rfl, (by show 1 ≤ sizeLine; decide), fun p5 n5 => ⟨p4, p5, _, _, rfl, rfl, same_new n5 _ _ upd_same, upd_same, ?_, fun p6 n6 => ⟨_, rfl, p6, p3, _, _, rfl, rfl, upd_same, same_new n6 _ _ (same_new n5 _ _ (same_new n4 _ _ upd_same)), ?_, fun p7 n7 => ?_⟩⟩⟩⟩
              · have h1 := cutV_length (nats o) none (some (m : Int))
                rw [nats_len] at h1
                show _ + 1 ≤ sizeLine
                exact Nat.le_trans (by omega : _ ≤ 7) (by decide)
              · have h1 := cutV_length (nats o) none (some (m : Int))
                have h2 := (Tw.isort_perm ((o.drop m).filter fun i => i != Tw.larger o m)).length_eq
                have h3 : ((o.drop m).filter fun i => i != Tw.larger o m).length ≤ (o.drop m).length := List.length_filter_le ..
                rw [List.length_drop] at h3
                rw [nats_len] at h1
                rw [List.length_append, List.length_map, List.length_map, h2]
                show _ + 1 + _ ≤ sizeLine
                exact Nat.le_trans (by omega : _ ≤ 13) (by decide)
              · refine k _ p7 ((((S5.trans (same_new n4)).trans (same_new n5)).trans (same_new n6)).trans (same_new n7)) (Same.free (((S5.trans (same_new n4)).trans (same_new n5)).trans (same_new n6)) n7) (upd_same.trans (congrArg (fun z => some (HO.lst z)) ?_))
                have eX : Tw.next o = o.take m ++ [Tw.larger o m] ++ Tw.isort ((o.drop m).filter fun i => i != Tw.larger o m) := by
                  unfold Tw.next
                  rw [eT]
                  rfl
                rw [eX, nats_app, nats_app, nats_ints, cut_take]
                rfl
end
end Tp

set_option maxRecDepth 100000
set_option maxHeartbeats 4000000
namespace Tw
theorem Mem.len {s : List Nat} (h : Mem s) : s.length ≤ 6 := by
  obtain ⟨m, hm, e⟩ := h
  subst e
  have k : ((List.range 6).filter fun i => m / 2 ^ i % 2 == 1).length ≤ (List.range 6).length := List.length_filter_le ..
  rw [List.length_range] at k
  exact k
theorem Mem.sorted_le {s : List Nat} (h : Mem s) : s.Pairwise (· ≤ ·) := h.sorted.imp fun q => Nat.le_of_lt q
end Tw
namespace Tp
open PySem PySem.Spec PyProof.Rows L2 TwX TwY
section
variable {P : Program} {w : World} {K : PySem.W.Frag} {mg : Str → Option Value} {base : Heap} {a : Ad}
/-! ### find_best_tour(machines, members); slots: machines, members, shortest, tour -/
def spBest (a : Ad) (K : PySem.W.Frag) : Sp := fun vs H Q _ => ∃ (l t : Addr) (ws : Sr120.Workshop) (s : List Nat), vs = [.ref l, .ref t] ∧ Fleet a.c_Machine H l ws ∧ SqL K H t (nats s) ∧ Tw.Mem s ∧ (∀ i ∈ s, i < ws.length) ∧
  ∀ H' r, Same H H' → H r = none → H' r = some (.lst (nats (Sr120.bestTour ws s))) → Q (.ref r) H'
theorem sc_best : FnScope ["machines", "members", "shortest", "tour"] ["machines", "members"] (defScope s_find_best_tour) := ⟨rfl, rfl, rfl, by decide +kernel, rfl, by decide +kernel, by decide +kernel⟩
theorem ok_best (T : Txt K mg a) : Kept P w K mg base CX0 6 a.f_find_best_tour ["machines", "members"] (spBest a K) := by
  obtain ⟨fd, F⟩ := T.r.d_find_best_tour
  obtain ⟨f1, F1, b1, k1⟩ := (ok_mincycle (P := P) (w := w) (base := base) T).ex
  obtain ⟨f2, F2, b2, k2⟩ := (ok_cycle (P := P) (w := w) (base := base) T).ex
  obtain ⟨f3, F3, b3, k3⟩ := (ok_next (P := P) (w := w) (base := base) T).ex
  refine ⟨fd, F.ok sc_best (fun vs H Q E h => ?_) (fun cdv A outer s H vs Q E hr h => ?_), F.binds fun _ _ _ _ _ _ us hl => match us, hl with | [_, _], _ => rfl, F.kp⟩
  · obtain ⟨l, t, ws, m, rfl, _⟩ := h
    rfl
  · refine ⟨_, pss_cons (ps_set (i := 2) sc_best.nd rfl (.inl rfl) (pe_call F1 (hr.mono (by decide)) rfl (T.g T.r.n_find_min_cycle_time) k1 b1 .nil pass0 (pa_cons (pv 0) (pa_cons (pv 1) pa_nil))))
      (pss_cons (ps_set (i := 3) sc_best.nd rfl (.inl rfl) (pe_callB cr_sorted (by rfl) (T.z T.r.z_sorted) (by decide +kernel) (pa_cons (pv 1) pa_nil)))
      (pss_cons (ps_while PassesOwn.never (pt_cmpR op_gt (pe_call F2 hr rfl (T.g T.r.n_find_cycle_time) k2 b2 .nil pass0 (pa_cons (pv 0) (pa_cons (pv 3) pa_nil))) (pv 2) (nomark _))
        (pss_one (ps_set (i := 3) sc_best.nd rfl (.inl rfl) (pe_call F3 (hr.mono (by decide)) rfl (T.g T.r.n_find_next_order) k3 b3 .nil pass0 (pa_cons (pv 3) pa_nil)))))
      (pss_one (ps_ret (pv 3))))), ?_⟩
    obtain ⟨l, t, ws, m, rfl, hF, hT, hm, hi, k⟩ := h
    have hlen := hm.len
    refine ⟨_, rfl, _, rfl, l, t, ws, m, rfl, hF, hT, hi, by omega, fun H1 S1 => ⟨_, rfl, t, _, rfl, (show SqL K H1 t ((m.map fun (j : Nat) => (j : Int)).map V.int) by rw [nats_ints]; exact S1.seq hT), by rw [List.length_map]; omega, fun ns' p1 perm rising n1 => ?_⟩⟩
    have eN := Tw.sorted_one perm rising (List.Perm.refl m) hm.sorted_le
    subst eN
    obtain ⟨l0, st⟩ := Tw.Stands.start (w := ws) hm
    refine ⟨fun z σ H' => ∃ r tt l2, z = l2.length ∧ Same H H' ∧ H r = none ∧ H' r = some (.lst (nats tt)) ∧ σ = [some (.ref l), some (.ref t), some (.int (Tw.closed ws m : Nat)), some (.ref r)] ∧ Tw.Stands ws m tt l2,
      ⟨_, p1, m, l0, rfl, S1.trans (same_new n1), S1.free n1, upd_same.trans (congrArg (fun z => some (HO.lst z)) (nats_ints m)), rfl, st⟩, ?_⟩
    rintro z σ H2 ⟨r, tt, l2, rfl, S2, nr, er, rfl, stt⟩
    have pm := stt.perm hm
    refine ⟨_, rfl, _, rfl, l, r, ws, tt, rfl, hF.same S2, .of er, fun i h => hi i (pm.mem_iff.mp h), by rw [pm.length_eq]; omega, fun H3 S3 => ⟨_, rfl, _, _, rfl, rfl, _, rfl, ite2 (fun c => ?_) (fun c => ?_)⟩⟩
    · have c := of_decide_eq_true c
      obtain ⟨tn, l3, e3, st3⟩ := stt.step hm (by omega)
      refine ⟨_, fun σ' H' h => ⟨l3.length, by rw [e3]; exact Nat.lt_succ_self _, h⟩, _, rfl, r, tt, rfl, .of (S3 _ _ er), tn, by rw [pm.length_eq]; omega, fun H4 r4 S4 n4 e4 => ?_⟩
      exact ⟨r4, _, l3, rfl, S2.trans (S3.trans S4), (S2.trans S3).free n4, e4, rfl, st3⟩
    · have c : ¬ (((Tw.closed ws m : Nat) : Int) < ((Sr120.cycleTime ws tt : Nat) : Int)) := fun z => c (decide_eq_true z)
      obtain ⟨e5, _⟩ := stt.done hm (by omega)
      rw [e5] at k
      exact ⟨_, rfl, k H3 r (S2.trans S3) nr (S3 _ _ er)⟩
end
end Tp

set_option maxRecDepth 100000
set_option maxHeartbeats 4000000
namespace Tp
open PySem PySem.Spec PyProof.Rows L2 TwX TwY
/-- all but the things told stays -/
def Frm (bad : Addr → HO → Prop) (H H' : Hp) : Prop := ∀ b o, H b = some o → ¬ bad b o → H' b = some o
theorem SqL.frm {K : PySem.W.Frag} {bad : Addr → HO → Prop} {H H' : Hp} {c : Addr} {xs : List V} (f : Frm bad H H') (h : SqL K H c xs) (h1 : H c = some (.lst xs) → ¬ bad c (.lst xs)) (h2 : ∀ o, ¬ bad c (.frz o (.lst xs))) : SqL K H' c xs := by
  rcases h with (h | ⟨o, h⟩) | h
  · exact .inl (.inl (f _ _ h (h1 h)))
  · exact .inl (.inr ⟨o, f _ _ h (h2 o)⟩)
  · exact .inr h
theorem ne_kind {H : Hp} {a b : Addr} {x y : HO} (h1 : H a = some x) (h2 : H b = some y) (n : x ≠ y) : a ≠ b := fun e => by
  subst e
  rw [h1] at h2
  cases h2
  exact n rfl
/-! ### errors -/
def InitAt (K : PySem.W.Frag) (C p : Addr) (H : Hp) (n : Int) (Q : VK) : Prop := ErrC K C ∧ PySem.W.findIn K (.ref C) "code" = some none ∧ H p = some (exo p C none) ∧
  ∀ dx, H dx = none → dx ≠ p → Q .non (upd (upd H dx (exd dx [("code", .int n)])) p (exo p C (some dx)))
def spInit1 (K : PySem.W.Frag) : Sp := fun vs H Q _ => ∃ (p C : Addr) (n : Int), vs = [.ref p, .int n] ∧ InitAt K C p H n Q
def spInit0 (K : PySem.W.Frag) (n : Int) : Sp := fun vs H Q _ => ∃ (p C : Addr), vs = [.ref p] ∧ InitAt K C p H n Q
/-- what a raised error leaves -/
def Bad (C : Addr) (n : Int) (H : Hp) (E : XK) : Prop := ∀ d H', Same H H' → H' d = some (.xd [("code", .int n)]) → E (.ref C) (some d) H'
theorem Bad.mono {C : Addr} {n : Int} {H H1 : Hp} {E : XK} (h : Bad C n H E) (s : Same H H1) : Bad C n H1 E := fun d H' s' => h d H' (s.trans s')
theorem err_raise {K : PySem.W.Frag} {C : Addr} {n : Int} {σ : L2.St} {H : Hp} {E : XK} (ec : ErrC K C) (hno : PySem.W.findIn K (.ref C) "code" = some none) (k : Bad C n H E) : tErrNew C (spInit0 K n) tNil σ H E := by
  refine ⟨by decide, fun p np => ⟨p, C, rfl, ec, hno, upd_same, fun dx ndx ne => ⟨rfl, dx, _, upd_same, (upd_ne ne).trans upd_same, ?_, k dx _ (fun b o e => ?_) upd_same⟩⟩⟩
  · rw [upd_ne ne] at ndx
    exact ndx
  · have hp : b ≠ p := ne_of_none e np
    rw [upd_ne ne] at ndx
    have hd : b ≠ dx := ne_of_none e ndx
    rw [upd_ne hd, del_ne hp, upd_ne hp, upd_ne hd, upd_ne hp]
    exact e
section
variable {P : Program} {w : World} {K : PySem.W.Frag} {mg : Str → Option Value} {base : Heap} {a : Ad}
theorem sc_refusal : FnScope ["self", "code"] ["self", "code"] (defScope s_Refusal_init) := ⟨rfl, rfl, rfl, by decide +kernel, rfl, by decide +kernel, by decide +kernel⟩
theorem ok_refusal (T : Txt K mg a) : Kept P w K mg base CX0 1 a.f_Refusal_init ["self", "code"] (spInit1 K) := by
  obtain ⟨fd, F⟩ := T.r.d_Refusal_init
  refine ⟨fd, F.ok sc_refusal (fun vs H Q E h => ?_) (fun cdv A outer s H vs Q E hr h => ?_), F.binds fun _ _ _ _ _ _ us hl => match us, hl with | [_, _], _ => rfl, F.kp⟩
  · obtain ⟨p, C, n, rfl, _⟩ := h
    rfl
  · refine ⟨_, pss_one (ps_errSet (pv 0) (pv 1)), ?_⟩
    obtain ⟨p, C, n, rfl, e1, e2, e3, k⟩ := h
    exact ⟨_, rfl, _, rfl, p, C, rfl, e1, e2, e3, k⟩
theorem sc_NoInstance : FnScope ["self"] ["self"] (defScope s_NoInstance_init) := ⟨rfl, rfl, rfl, by decide +kernel, rfl, by decide +kernel, by decide +kernel⟩
theorem ok_NoInstance (T : Txt K mg a) : Kept P w K mg base CX0 2 a.f_NoInstance_init ["self"] (spInit0 K (-11)) := by
  obtain ⟨fd, F⟩ := T.r.d_NoInstance_init
  obtain ⟨f1, F1, b1, k1⟩ := (ok_refusal (P := P) (w := w) (base := base) T).ex
  refine ⟨fd, F.ok sc_NoInstance (fun vs H Q E h => ?_) (fun cdv A outer s H vs Q E hr h => ?_), F.binds fun _ _ _ _ _ _ us hl => match us, hl with | [_], _ => rfl, F.kp⟩
  · obtain ⟨p, C, rfl, _⟩ := h
    rfl
  · refine ⟨_, pss_one (ps_expr (pe_byCls (pe_glob (v := .ref a.c_Refusal) rfl (T.g T.r.n_Refusal) rfl) T.r.b_Refusal.rd T.r.b_Refusal.vl k1 F1 hr b1 pass0 (pa_cons (pv 0) (pa_cons (pe_un un_neg pe_int) pa_nil)))), ?_⟩
    obtain ⟨p, C, rfl, k⟩ := h
    exact ⟨rfl, _, rfl, _, rfl, p, C, _, rfl, k⟩
theorem sc_NoSuchMachine : FnScope ["self"] ["self"] (defScope s_NoSuchMachine_init) := ⟨rfl, rfl, rfl, by decide +kernel, rfl, by decide +kernel, by decide +kernel⟩
theorem ok_NoSuchMachine (T : Txt K mg a) : Kept P w K mg base CX0 2 a.f_NoSuchMachine_init ["self"] (spInit0 K (-2)) := by
  obtain ⟨fd, F⟩ := T.r.d_NoSuchMachine_init
  obtain ⟨f1, F1, b1, k1⟩ := (ok_refusal (P := P) (w := w) (base := base) T).ex
  refine ⟨fd, F.ok sc_NoSuchMachine (fun vs H Q E h => ?_) (fun cdv A outer s H vs Q E hr h => ?_), F.binds fun _ _ _ _ _ _ us hl => match us, hl with | [_], _ => rfl, F.kp⟩
  · obtain ⟨p, C, rfl, _⟩ := h
    rfl
  · refine ⟨_, pss_one (ps_expr (pe_byCls (pe_glob (v := .ref a.c_Refusal) rfl (T.g T.r.n_Refusal) rfl) T.r.b_Refusal.rd T.r.b_Refusal.vl k1 F1 hr b1 pass0 (pa_cons (pv 0) (pa_cons (pe_un un_neg pe_int) pa_nil)))), ?_⟩
    obtain ⟨p, C, rfl, k⟩ := h
    exact ⟨rfl, _, rfl, _, rfl, p, C, _, rfl, k⟩
theorem sc_BadParameter : FnScope ["self"] ["self"] (defScope s_BadParameter_init) := ⟨rfl, rfl, rfl, by decide +kernel, rfl, by decide +kernel, by decide +kernel⟩
theorem ok_BadParameter (T : Txt K mg a) : Kept P w K mg base CX0 2 a.f_BadParameter_init ["self"] (spInit0 K (-22)) := by
  obtain ⟨fd, F⟩ := T.r.d_BadParameter_init
  obtain ⟨f1, F1, b1, k1⟩ := (ok_refusal (P := P) (w := w) (base := base) T).ex
  refine ⟨fd, F.ok sc_BadParameter (fun vs H Q E h => ?_) (fun cdv A outer s H vs Q E hr h => ?_), F.binds fun _ _ _ _ _ _ us hl => match us, hl with | [_], _ => rfl, F.kp⟩
  · obtain ⟨p, C, rfl, _⟩ := h
    rfl
  · refine ⟨_, pss_one (ps_expr (pe_byCls (pe_glob (v := .ref a.c_Refusal) rfl (T.g T.r.n_Refusal) rfl) T.r.b_Refusal.rd T.r.b_Refusal.vl k1 F1 hr b1 pass0 (pa_cons (pv 0) (pa_cons (pe_un un_neg pe_int) pa_nil)))), ?_⟩
    obtain ⟨p, C, rfl, k⟩ := h
    exact ⟨rfl, _, rfl, _, rfl, p, C, _, rfl, k⟩
theorem sc_TooManyMachines : FnScope ["self"] ["self"] (defScope s_TooManyMachines_init) := ⟨rfl, rfl, rfl, by decide +kernel, rfl, by decide +kernel, by decide +kernel⟩
theorem ok_TooManyMachines (T : Txt K mg a) : Kept P w K mg base CX0 2 a.f_TooManyMachines_init ["self"] (spInit0 K (-28)) := by
  obtain ⟨fd, F⟩ := T.r.d_TooManyMachines_init
  obtain ⟨f1, F1, b1, k1⟩ := (ok_refusal (P := P) (w := w) (base := base) T).ex
  refine ⟨fd, F.ok sc_TooManyMachines (fun vs H Q E h => ?_) (fun cdv A outer s H vs Q E hr h => ?_), F.binds fun _ _ _ _ _ _ us hl => match us, hl with | [_], _ => rfl, F.kp⟩
  · obtain ⟨p, C, rfl, _⟩ := h
    rfl
  · refine ⟨_, pss_one (ps_expr (pe_byCls (pe_glob (v := .ref a.c_Refusal) rfl (T.g T.r.n_Refusal) rfl) T.r.b_Refusal.rd T.r.b_Refusal.vl k1 F1 hr b1 pass0 (pa_cons (pv 0) (pa_cons (pe_un un_neg pe_int) pa_nil)))), ?_⟩
    obtain ⟨p, C, rfl, k⟩ := h
    exact ⟨rfl, _, rfl, _, rfl, p, C, _, rfl, k⟩
theorem sc_NoMachines : FnScope ["self"] ["self"] (defScope s_NoMachines_init) := ⟨rfl, rfl, rfl, by decide +kernel, rfl, by decide +kernel, by decide +kernel⟩
theorem ok_NoMachines (T : Txt K mg a) : Kept P w K mg base CX0 2 a.f_NoMachines_init ["self"] (spInit0 K (-6)) := by
  obtain ⟨fd, F⟩ := T.r.d_NoMachines_init
  obtain ⟨f1, F1, b1, k1⟩ := (ok_refusal (P := P) (w := w) (base := base) T).ex
  refine ⟨fd, F.ok sc_NoMachines (fun vs H Q E h => ?_) (fun cdv A outer s H vs Q E hr h => ?_), F.binds fun _ _ _ _ _ _ us hl => match us, hl with | [_], _ => rfl, F.kp⟩
  · obtain ⟨p, C, rfl, _⟩ := h
    rfl
  · refine ⟨_, pss_one (ps_expr (pe_byCls (pe_glob (v := .ref a.c_Refusal) rfl (T.g T.r.n_Refusal) rfl) T.r.b_Refusal.rd T.r.b_Refusal.vl k1 F1 hr b1 pass0 (pa_cons (pv 0) (pa_cons (pe_un un_neg pe_int) pa_nil)))), ?_⟩
    obtain ⟨p, C, rfl, k⟩ := h
    exact ⟨rfl, _, rfl, _, rfl, p, C, _, rfl, k⟩
end
end Tp

set_option maxRecDepth 100000
set_option maxHeartbeats 4000000
namespace Tp
open PySem PySem.Spec PyProof.Rows L2 TwX TwY
section
variable {P : Program} {w : World} {K : PySem.W.Frag} {mg : Str → Option Value} {base : Heap} {a : Ad}
theorem pe_mod {X : Cx} {x : Str} {n : Int} {pos : Pos} (h : ∃ t, X.mg x = some (.int n t)) (hg : Gl X x := by rfl) (hd : (x == ("__debug__" : Str)) = false := by decide) : PE X (.Name x pos) (tC (.int n)) := by
  obtain ⟨t, h⟩ := h
  exact pe_glob (v := .int n) hg h ⟨t, rfl⟩ hd
theorem Txt.int (T : Txt K mg a) {x : Str} {n : Int} (h : IntAt K x n) : ∃ t, mg x = some (.int n t) := by
  obtain ⟨t, h⟩ := h
  exact ⟨t, T.g h⟩
/-! ### Machine(position, run_time, service_time) -/
def spMInit (a : Ad) : Sp := fun vs H Q _ => ∃ (p dx : Addr) (m : Sr120.Machine), vs = [.ref p, .int m.position, .int m.runTime, .int m.serviceTime] ∧ H p = some (.ins a.c_Machine dx []) ∧ Q .non (upd H p (.ins a.c_Machine dx (mF m)))
theorem sc_minit : FnScope ["self", "position", "run_time", "service_time"] ["self", "position", "run_time", "service_time"] (defScope s_Machine_init) := ⟨rfl, rfl, rfl, by decide +kernel, rfl, by decide +kernel, by decide +kernel⟩
theorem ok_minit (T : Txt K mg a) : Kept P w K mg base CX0 1 a.f_Machine_init ["self", "position", "run_time", "service_time"] (spMInit a) := by
  obtain ⟨fd, F⟩ := T.r.d_Machine_init
  refine ⟨fd, F.ok sc_minit (fun vs H Q E h => ?_) (fun cdv A outer s H vs Q E hr h => ?_), F.binds fun _ _ _ _ _ _ us hl => match us, hl with | [_, _, _, _], _ => rfl, F.kp⟩
  · obtain ⟨p, dx, m, rfl, _⟩ := h
    rfl
  · refine ⟨_, pss_cons (ps_fld (pv 0) (pv 1) rfl) (pss_cons (ps_fld (pv 0) (pv 2) rfl) (pss_one (ps_fld (pv 0) (pv 3) rfl))), ?_⟩
    obtain ⟨p, dx, m, rfl, hp, k⟩ := h
    refine ⟨_, rfl, _, rfl, p, _, dx, _, rfl, hp, T.r.c_Machine.cl, T.r.a_Machine_position, by decide, _, rfl, _, rfl, p, _, dx, _, rfl, upd_same, T.r.c_Machine.cl, T.r.a_Machine_run_time, (by show 1 < 1000; decide), _, rfl, _, rfl, p, _, dx, _, rfl, upd_same, T.r.c_Machine.cl, T.r.a_Machine_service_time, (by show 2 < 1000; decide), ?_⟩
    rw [upd_upd, upd_upd]
    exact k
/-! ### the checks -/
def spRange (a : Ad) : Sp := fun vs H Q E => ∃ (n lo hi : Int), vs = [.int n, .int lo, .int hi] ∧ (lo ≤ n ∧ n ≤ hi → Q .non H) ∧ (¬ (lo ≤ n ∧ n ≤ hi) → Bad a.c_BadParameter (-22) H E)
theorem sc_range : FnScope ["number", "least", "most"] ["number", "least", "most"] (defScope s_check_range) := ⟨rfl, rfl, rfl, by decide +kernel, rfl, by decide +kernel, by decide +kernel⟩
theorem ok_range (T : Txt K mg a) : Kept P w K mg base (L2.CX P w) 4 a.f_check_range ["number", "least", "most"] (spRange a) := by
  obtain ⟨fd, F⟩ := T.r.d_check_range
  obtain ⟨f1, F1, b1, k1⟩ := (ok_BadParameter (P := P) (w := w) (base := base) T).ex
  refine ⟨fd, F.okX sc_range (fun vs H Q E h => ?_) (fun cdv A outer s H vs Q E hr h => ?_), F.binds fun _ _ _ _ _ _ us hl => match us, hl with | [_, _, _], _ => rfl, F.kp⟩
  · obtain ⟨n, lo, hi, rfl, _⟩ := h
    rfl
  · refine ⟨_, pss_one (ps_if (PW.pt (pw_or (pt_cmpR op_lt (pv 0) (pv 1) (nomark _)) (pw_or1 (pt_cmpR op_gt (pv 0) (pv 2) (nomark _)))))
      (pss_one (ps_raise rfl (takes_of rfl rfl rfl rfl) (pmk_err0 T.r.e_BadParameter.er T.r.m_BadParameter_init T.r.y_BadParameter_init F1 hr b1 pass0 rfl (T.g T.r.n_BadParameter)))) pss_nil), ?_⟩
    obtain ⟨n, lo, hi, rfl, k1, k2⟩ := h
    refine ⟨_, rfl, _, rfl, _, _, rfl, rfl, _, rfl, ite2 (fun c => ?_) (fun c => ⟨_, rfl, _, rfl, _, _, rfl, rfl, _, rfl, ite2 (fun c2 => ?_) (fun c2 => ?_)⟩)⟩
    · have c := of_decide_eq_true c
      exact iteT (err_raise T.r.e_BadParameter.er T.r.g_BadParameter (k2 (by omega)))
    · have c2 := of_decide_eq_true c2
      exact err_raise T.r.e_BadParameter.er T.r.g_BadParameter (k2 (by omega))
    · have c : ¬ (n < lo) := fun z => c (decide_eq_true z)
      have c2 : ¬ (hi < n) := fun z => c2 (decide_eq_true z)
      exact k1 (by omega)
def spIn (a : Ad) (lo hi : Int) : Sp := fun vs H Q E => ∃ (n : Int), vs = [.int n] ∧ (lo ≤ n ∧ n ≤ hi → Q .non H) ∧ (¬ (lo ≤ n ∧ n ≤ hi) → Bad a.c_BadParameter (-22) H E)
theorem sc_cpos : FnScope ["position"] ["position"] (defScope s_check_position) := ⟨rfl, rfl, rfl, by decide +kernel, rfl, by decide +kernel, by decide +kernel⟩
theorem ok_cpos (T : Txt K mg a) : Kept P w K mg base (L2.CX P w) 5 a.f_check_position ["position"] (spIn a 0 99) := by
  obtain ⟨fd, F⟩ := T.r.d_check_position
  obtain ⟨f1, F1, b1, k1⟩ := (ok_range (P := P) (w := w) (base := base) T).ex
  refine ⟨fd, F.okX sc_cpos (fun vs H Q E h => ?_) (fun cdv A outer s H vs Q E hr h => ?_), F.binds fun _ _ _ _ _ _ us hl => match us, hl with | [_], _ => rfl, F.kp⟩
  · obtain ⟨n, rfl, _⟩ := h
    rfl
  · refine ⟨_, pss_one (ps_expr (pe_call F1 hr rfl (T.g T.r.n_check_range) k1 b1 .nil (passes_call (takes_of rfl rfl rfl rfl) (fun _ _ _ _ z => z)) (pa_cons (pv 0) (pa_cons pe_int (pa_cons (pe_mod (T.int T.r.v_MOST_POSITION)) pa_nil))))), ?_⟩
    obtain ⟨n, rfl, k1, k2⟩ := h
    exact ⟨_, rfl, n, 0, 99, rfl, k1, k2⟩
theorem sc_crun : FnScope ["run_time"] ["run_time"] (defScope s_check_run_time) := ⟨rfl, rfl, rfl, by decide +kernel, rfl, by decide +kernel, by decide +kernel⟩
theorem ok_crun (T : Txt K mg a) : Kept P w K mg base (L2.CX P w) 5 a.f_check_run_time ["run_time"] (spIn a 0 99) := by
  obtain ⟨fd, F⟩ := T.r.d_check_run_time
  obtain ⟨f1, F1, b1, k1⟩ := (ok_range (P := P) (w := w) (base := base) T).ex
  refine ⟨fd, F.okX sc_crun (fun vs H Q E h => ?_) (fun cdv A outer s H vs Q E hr h => ?_), F.binds fun _ _ _ _ _ _ us hl => match us, hl with | [_], _ => rfl, F.kp⟩
  · obtain ⟨n, rfl, _⟩ := h
    rfl
  · refine ⟨_, pss_one (ps_expr (pe_call F1 hr rfl (T.g T.r.n_check_range) k1 b1 .nil (passes_call (takes_of rfl rfl rfl rfl) (fun _ _ _ _ z => z)) (pa_cons (pv 0) (pa_cons pe_int (pa_cons (pe_mod (T.int T.r.v_MOST_RUN_TIME)) pa_nil))))), ?_⟩
    obtain ⟨n, rfl, k1, k2⟩ := h
    exact ⟨_, rfl, n, 0, 99, rfl, k1, k2⟩
theorem sc_cser : FnScope ["service_time"] ["service_time"] (defScope s_check_service_time) := ⟨rfl, rfl, rfl, by decide +kernel, rfl, by decide +kernel, by decide +kernel⟩
theorem ok_cser (T : Txt K mg a) : Kept P w K mg base (L2.CX P w) 5 a.f_check_service_time ["service_time"] (spIn a 1 99) := by
  obtain ⟨fd, F⟩ := T.r.d_check_service_time
  obtain ⟨f1, F1, b1, k1⟩ := (ok_range (P := P) (w := w) (base := base) T).ex
  refine ⟨fd, F.okX sc_cser (fun vs H Q E h => ?_) (fun cdv A outer s H vs Q E hr h => ?_), F.binds fun _ _ _ _ _ _ us hl => match us, hl with | [_], _ => rfl, F.kp⟩
  · obtain ⟨n, rfl, _⟩ := h
    rfl
  · refine ⟨_, pss_one (ps_expr (pe_call F1 hr rfl (T.g T.r.n_check_range) k1 b1 .nil (passes_call (takes_of rfl rfl rfl rfl) (fun _ _ _ _ z => z)) (pa_cons (pv 0) (pa_cons (pe_mod (T.int T.r.v_LEAST_SERVICE_TIME)) (pa_cons (pe_mod (T.int T.r.v_MOST_SERVICE_TIME)) pa_nil))))), ?_⟩
    obtain ⟨n, rfl, k1, k2⟩ := h
    exact ⟨_, rfl, n, 1, 99, rfl, k1, k2⟩
end
end Tp

set_option maxRecDepth 100000
set_option maxHeartbeats 4000000
namespace Tp
open PySem PySem.Spec PyProof.Rows L2 TwX TwY
def intv (l : List Int) : List V := l.map V.int
theorem intv_len (l : List Int) : (intv l).length = l.length := List.length_map ..
theorem intv_at {l : List Int} {i : Nat} {x : Int} (h : l[i]? = some x) : (intv l)[i]? = some (.int x) := by
  unfold intv
  rw [List.getElem?_map, h]
  rfl
theorem intv_drop (l : List Int) (k : Nat) : (intv l).drop k = intv (l.drop k) := (List.map_drop ..).symm
theorem intv_take (l : List Int) (k : Nat) : (intv l).take k = intv (l.take k) := (List.map_take ..).symm
theorem cut_row (l : List Int) (q n : Nat) (h : q + n ≤ l.length) : cutV (intv l) (some ((q : Nat) : Int)) (some (((q + n : Nat)) : Int)) = intv ((l.drop q).take n) := by
  unfold cutV
  rw [HT.sIx_nat, HT.sIx_nat, intv_drop, intv_take, intv_len]
  congr 2
  · omega
  · congr 1
    omega
/-- a reader's object -/
def rdF (c : Addr) (q : Nat) : List (Str × V) := [("numbers", .ref c), ("place", .int (q : Nat))]
theorem rdF_num {c : Addr} {q : Nat} : (rdF c q).lookup ("numbers" : Str) = some (.ref c) := lk_here
theorem rdF_pl {c : Addr} {q : Nat} : (rdF c q).lookup ("place" : Str) = some (.int (q : Nat)) := (lk_past (by decide +kernel)).trans lk_here
theorem rdF_take {c : Addr} {q : Nat} : (rdF c q).lookup ("take_number" : Str) = none := (lk_past (by decide +kernel)).trans ((lk_past (by decide +kernel)).trans rfl)
theorem rdF_row {c : Addr} {q : Nat} : (rdF c q).lookup ("take_row" : Str) = none := (lk_past (by decide +kernel)).trans ((lk_past (by decide +kernel)).trans rfl)
theorem rdF_end {c : Addr} {q : Nat} : (rdF c q).lookup ("at_end" : Str) = none := (lk_past (by decide +kernel)).trans ((lk_past (by decide +kernel)).trans rfl)
theorem rdF_put {c : Addr} {q : Nat} {x : V} : putF ("place" : Str) x (rdF c q) = [(("numbers" : Str), .ref c), (("place" : Str), x)] := (put_past (by decide +kernel)).trans (congrArg _ put_here)
theorem seq_ins {K : PySem.W.Frag} {H : Hp} {c p C C2 dx dx2 : Addr} {fs gs : List (Str × V)} {xs : List V} (h : SqL K H c xs) (hp : H p = some (.ins C dx fs)) : SqL K (upd H p (.ins C2 dx2 gs)) c xs := by
  rcases h with (h | ⟨o, h⟩) | h
  · exact .inl (.inl (by rw [upd_ne (ne_kind h hp (fun z => by cases z))]; exact h))
  · exact .inl (.inr ⟨o, by rw [upd_ne (ne_kind h hp (fun z => by cases z))]; exact h⟩)
  · exact .inr h
section
variable {P : Program} {w : World} {K : PySem.W.Frag} {mg : Str → Option Value} {base : Heap} {a : Ad}
/-! ### Reader -/
def spRInit (a : Ad) : Sp := fun vs H Q _ => ∃ (p dx c : Addr), vs = [.ref p, .ref c] ∧ H p = some (.ins a.c_Reader dx []) ∧ Q .non (upd H p (.ins a.c_Reader dx (rdF c 0)))
theorem sc_rinit : FnScope ["self", "numbers"] ["self", "numbers"] (defScope s_Reader_init) := ⟨rfl, rfl, rfl, by decide +kernel, rfl, by decide +kernel, by decide +kernel⟩
theorem ok_rinit (T : Txt K mg a) : Kept P w K mg base CX0 1 a.f_Reader_init ["self", "numbers"] (spRInit a) := by
  obtain ⟨fd, F⟩ := T.r.d_Reader_init
  refine ⟨fd, F.ok sc_rinit (fun vs H Q E h => ?_) (fun cdv A outer s H vs Q E hr h => ?_), F.binds fun _ _ _ _ _ _ us hl => match us, hl with | [_, _], _ => rfl, F.kp⟩
  · obtain ⟨p, dx, c, rfl, _⟩ := h
    rfl
  · refine ⟨_, pss_cons (ps_fld (pv 0) (pv 1) rfl) (pss_one (ps_fld (pv 0) pe_int rfl)), ?_⟩
    obtain ⟨p, dx, c, rfl, hp, k⟩ := h
    refine ⟨_, rfl, _, rfl, p, _, dx, _, rfl, hp, T.r.c_Reader.cl, T.r.a_Reader_numbers, by decide, _, rfl, p, _, dx, _, rfl, upd_same, T.r.c_Reader.cl, T.r.a_Reader_place, (by show 1 < 1000; decide), ?_⟩
    rw [upd_upd]
    exact k
def spEnd (a : Ad) (K : PySem.W.Frag) : Sp := fun vs H Q _ => ∃ (p dx c : Addr) (l : List Int) (q : Nat), vs = [.ref p] ∧ H p = some (.ins a.c_Reader dx (rdF c q)) ∧ SqL K H c (intv l) ∧ Q (.bl (decide (l.length ≤ q))) H
theorem sc_end : FnScope ["self"] ["self"] (defScope s_Reader_at_end) := ⟨rfl, rfl, rfl, by decide +kernel, rfl, by decide +kernel, by decide +kernel⟩
theorem ok_end (T : Txt K mg a) : Kept P w K mg base CX0 1 a.f_Reader_at_end ["self"] (spEnd a K) := by
  obtain ⟨fd, F⟩ := T.r.d_Reader_at_end
  refine ⟨fd, F.ok sc_end (fun vs H Q E h => ?_) (fun cdv A outer s H vs Q E hr h => ?_), F.binds fun _ _ _ _ _ _ us hl => match us, hl with | [_], _ => rfl, F.kp⟩
  · obtain ⟨p, dx, c, l, q, rfl, _⟩ := h
    rfl
  · refine ⟨_, pss_one (ps_ret (pe_cmpR op_ge (pe_fld (pv 0) rfl) (pe_callB call_len_seq (by rfl) (T.z T.r.z_len) PySem.boot_len (pa_cons (pe_fld (pv 0) rfl) pa_nil)) (nomark _))), ?_⟩
    obtain ⟨p, dx, c, l, q, rfl, hp, hl, k⟩ := h
    refine ⟨_, rfl, p, _, dx, _, _, rfl, hp, T.r.c_Reader.cl, T.r.a_Reader_place, rdF_pl, _, rfl, p, _, dx, _, _, rfl, hp, T.r.c_Reader.cl, T.r.a_Reader_numbers, rdF_num, c, _, rfl, .inl hl, _, _, rfl, rfl, ?_⟩
    have e : decide ((((intv l).length : Nat) : Int) ≤ ((q : Nat) : Int)) = decide (l.length ≤ q) := by
      rw [decide_eq_decide, intv_len]
      omega
    show Q (.bl (decide ((((intv l).length : Nat) : Int) ≤ ((q : Nat) : Int)))) H
    rw [e]
    exact k
def spTake (a : Ad) (K : PySem.W.Frag) : Sp := fun vs H Q _ => ∃ (p dx c : Addr) (l : List Int) (q : Nat) (x : Int), vs = [.ref p] ∧ H p = some (.ins a.c_Reader dx (rdF c q)) ∧ SqL K H c (intv l) ∧ l[q]? = some x ∧ Q (.int x) (upd H p (.ins a.c_Reader dx (rdF c (q + 1))))
theorem sc_take : FnScope ["self", "number"] ["self"] (defScope s_Reader_take_number) := ⟨rfl, rfl, rfl, by decide +kernel, rfl, by decide +kernel, by decide +kernel⟩
theorem ok_take (T : Txt K mg a) : Kept P w K mg base CX0 1 a.f_Reader_take_number ["self"] (spTake a K) := by
  obtain ⟨fd, F⟩ := T.r.d_Reader_take_number
  refine ⟨fd, F.ok sc_take (fun vs H Q E h => ?_) (fun cdv A outer s H vs Q E hr h => ?_), F.binds fun _ _ _ _ _ _ us hl => match us, hl with | [_], _ => rfl, F.kp⟩
  · obtain ⟨p, dx, c, l, q, x, rfl, _⟩ := h
    rfl
  · refine ⟨_, pss_cons (ps_set (i := 1) sc_take.nd rfl (.inl rfl) (pe_ix ix_list (pe_fld (pv 0) rfl) (pe_fld (pv 0) rfl) (fun _ _ => rfl))) (pss_cons (ps_fldaug (pv 0) pe_int in_add) (pss_one (ps_ret (pv 1)))), ?_⟩
    obtain ⟨p, dx, c, l, q, x, rfl, hp, hl, hx, k⟩ := h
    refine ⟨_, rfl, p, _, dx, _, _, rfl, hp, T.r.c_Reader.cl, T.r.a_Reader_numbers, rdF_num, _, rfl, p, _, dx, _, _, rfl, hp, T.r.c_Reader.cl, T.r.a_Reader_place, rdF_pl, c, _, _, _, rfl, rfl, hl, atI_nat (intv_at hx),
      _, rfl, p, _, dx, _, _, rfl, hp, T.r.c_Reader.cl, T.r.a_Reader_place, rdF_pl, _, _, rfl, rfl, dx, _, hp, (by show 2 < 1000; decide), _, rfl, ?_⟩
    rw [rdF_put]
    exact k
def spRow (a : Ad) (K : PySem.W.Frag) : Sp := fun vs H Q _ => ∃ (p dx c : Addr) (l r : List Int) (q n : Nat), vs = [.ref p] ∧ H p = some (.ins a.c_Reader dx (rdF c q)) ∧ SqL K H c (intv l) ∧ l.drop q = ((n : Nat) : Int) :: r ∧ n ≤ r.length ∧
  ∀ H' x, Frm (fun b _ => b = p) H H' → H x = none → H' p = some (.ins a.c_Reader dx (rdF c (q + 1 + n))) → H' x = some (.lst (intv (r.take n))) → Q (.ref x) H'
theorem sc_row : FnScope ["self", "length", "row"] ["self"] (defScope s_Reader_take_row) := ⟨rfl, rfl, rfl, by decide +kernel, rfl, by decide +kernel, by decide +kernel⟩
theorem ok_row (T : Txt K mg a) : Kept P w K mg base CX0 2 a.f_Reader_take_row ["self"] (spRow a K) := by
  obtain ⟨fd, F⟩ := T.r.d_Reader_take_row
  obtain ⟨fd1, F0⟩ := T.r.d_Reader_take_number
  obtain ⟨f1, F1, b1, k1⟩ := (ok_take (P := P) (w := w) (base := base) T).ex
  refine ⟨fd, F.ok sc_row (fun vs H Q E h => ?_) (fun cdv A outer s H vs Q E hr h => ?_), F.binds fun _ _ _ _ _ _ us hl => match us, hl with | [_], _ => rfl, F.kp⟩
  · obtain ⟨p, dx, c, l, r, q, n, rfl, _⟩ := h
    rfl
  · refine ⟨_, pss_cons (ps_set (i := 1) sc_row.nd rfl (.inl rfl) (pe_meth0 (pv 0) T.r.c_Reader.cl (meth_mk T.r.m_Reader_take_number T.r.y_Reader_take_number F0) F1 hr b1 .nil pass0))
      (pss_cons (ps_set (i := 2) sc_row.nd rfl (.inl rfl) (pe_slice sl_list (pe_fld (pv 0) rfl) (po_some (pe_fld (pv 0) rfl)) (po_some (pe_op op_add (pe_fld (pv 0) rfl) (pv 1)))))
      (pss_cons (ps_fldaug (pv 0) (pv 1) in_add) (pss_one (ps_ret (pv 2))))), ?_⟩
    obtain ⟨p, dx, c, l, r, q, n, rfl, hp, hl, hx, hn, k⟩ := h
    obtain ⟨x1, x2, x3⟩ := Tw.drop_next hx
    have hl2 := seq_ins (C2 := a.c_Reader) (dx2 := dx) (gs := rdF c (q + 1)) hl hp
    have hlen : r.length = l.length - (q + 1) := by rw [← x3, List.length_drop]
    refine ⟨_, rfl, p, dx, _, rfl, hp, rdF_take, p, dx, c, l, q, _, rfl, hp, hl, x2, ?_⟩
    refine ⟨_, rfl, p, _, dx, _, _, rfl, upd_same, T.r.c_Reader.cl, T.r.a_Reader_numbers, rdF_num, _, rfl, p, _, dx, _, _, rfl, upd_same, T.r.c_Reader.cl, T.r.a_Reader_place, rdF_pl, _, rfl,
      _, rfl, p, _, dx, _, _, rfl, upd_same, T.r.c_Reader.cl, T.r.a_Reader_place, rdF_pl, _, rfl, _, _, rfl, rfl, _, rfl, c, _, rfl, hl2, fun x nx => ?_⟩
    have ne : p ≠ x := fun e => by
      rw [← e, upd_same] at nx
      cases nx
    have hp2 : upd (upd H p (.ins a.c_Reader dx (rdF c (q + 1)))) x (.lst (cutV (intv l) (some ((q + 1 : Nat) : Int)) (some (((q + 1 : Nat) : Int) + (n : Int))))) p = some (.ins a.c_Reader dx (rdF c (q + 1))) := by
      rw [upd_ne ne, upd_same]
    refine ⟨_, rfl, p, _, dx, _, _, rfl, hp2, T.r.c_Reader.cl, T.r.a_Reader_place, rdF_pl, _, rfl, _, _, rfl, rfl, dx, _, hp2, (by show 2 < 1000; decide), _, rfl, ?_⟩
    rw [rdF_put]
    refine k _ x (fun b o e hb => ?_) ?_ ?_ ?_
    · have hbx : b ≠ x := fun z => by
        rw [← z, upd_ne hb, e] at nx
        cases nx
      rw [upd_ne hb, upd_ne hbx, upd_ne hb]
      exact e
    · rw [upd_ne (Ne.symm ne)] at nx
      exact nx
    · rw [upd_same]
      rfl
    · rw [upd_ne (Ne.symm ne), upd_same]
      have e := cut_row l (q + 1) n (by omega)
      rw [x3] at e
      exact congrArg (fun z => some (HO.lst z)) e
end
end Tp

set_option maxRecDepth 100000
set_option maxHeartbeats 4000000
namespace Tw
open Sr120 SrCommon
theorem isMachine_iff {w : Workshop} {i : Int} : isMachine w i = true ↔ 0 ≤ i ∧ i < w.length := by
  unfold isMachine isIndex
  rw [Bool.and_eq_true, decide_eq_true_eq, decide_eq_true_eq]
/-- the tour's check, going on from those that were seen -/
theorem isTour_split {w : Workshop} {t : List Int} {k : Nat} {z : Int} (h : t[k]? = some z) (ht : isTour w t = true) : z ∉ t.take k ∧ isMachine w z = true := by
  unfold isTour at ht
  rw [Bool.and_eq_true, decide_eq_true_eq, List.all_eq_true] at ht
  refine ⟨fun m => ?_, ht.2 z (List.mem_of_getElem? h)⟩
  have e : t = t.take k ++ t.drop k := (List.take_append_drop k t).symm
  have nd := ht.1
  rw [e] at nd
  have q := (List.nodup_append.mp nd).2.2 z m z ?_
  · exact q rfl
  · obtain ⟨hk, e2⟩ := List.getElem?_eq_some_iff.mp h
    rw [List.drop_eq_getElem_cons hk, e2]
    exact List.mem_cons_self
theorem isTour_all {w : Workshop} {t : List Int} (h : ∀ k z, t[k]? = some z → z ∉ t.take k ∧ isMachine w z = true) : isTour w t = true := by
  unfold isTour
  rw [Bool.and_eq_true, decide_eq_true_eq, List.all_eq_true]
  refine ⟨?_, fun z hz => ?_⟩
  · rw [List.nodup_iff_pairwise_ne, List.pairwise_iff_getElem]
    intro i j hi hj hij e
    have q := (h j t[j] (List.getElem?_eq_getElem hj)).1
    refine q ?_
    rw [← e]
    refine List.mem_of_getElem? (i := i) ?_
    rw [List.getElem?_take_of_lt hij, List.getElem?_eq_getElem hi]
  · obtain ⟨k, hk⟩ := List.getElem?_of_mem hz
    exact (h k z hk).2
end Tw
namespace Tp
open PySem PySem.Spec PyProof.Rows L2 TwX TwY
/-- a list of machines, each its own -/
structure FleetD (C : Addr) (H : Hp) (l : Addr) (w : Sr120.Workshop) (ps : List Addr) : Prop where
  lst : H l = some (.lst (ps.map V.ref))
  len : ps.length = w.length
  nd : ps.Nodup
  mach : ∀ (i : Nat) (p : Addr), ps[i]? = some p → MachAt C H p (Sr120.machineAt w i)
theorem FleetD.fleet {C : Addr} {H : Hp} {l : Addr} {w : Sr120.Workshop} {ps : List Addr} (h : FleetD C H l w ps) : Fleet C H l w := ⟨ps, h.lst, h.len, h.mach⟩
theorem FleetD.same {C : Addr} {H H' : Hp} {l : Addr} {w : Sr120.Workshop} {ps : List Addr} (h : FleetD C H l w ps) (s : Same H H') : FleetD C H' l w ps :=
  ⟨s _ _ h.lst, h.len, h.nd, fun i p hp => by
    obtain ⟨dx, e⟩ := h.mach i p hp
    exact ⟨dx, s _ _ e⟩⟩
def wlF (l : Addr) : List (Str × V) := [("machines", .ref l)]
theorem wlF_get {l : Addr} : (wlF l).lookup ("machines" : Str) = some (.ref l) := lk_here
theorem wlF_no {l : Addr} {x : Str} (h : (x == ("machines" : Str)) = false) : (wlF l).lookup x = none := (lk_past h).trans rfl
/-- the wall at wa -/
structure WallAt (a : Ad) (H : Hp) (wa l : Addr) (w : Sr120.Workshop) (ps : List Addr) : Prop where
  obj : ∃ dx, H wa = some (.ins a.c_Wall dx (wlF l))
  fl : FleetD a.c_Machine H l w ps
  most : w.length ≤ 6
  fit : Tw.Fit w
theorem WallAt.same {a : Ad} {H H' : Hp} {wa l : Addr} {w : Sr120.Workshop} {ps : List Addr} (h : WallAt a H wa l w ps) (s : Same H H') : WallAt a H' wa l w ps :=
  ⟨by
    obtain ⟨dx, e⟩ := h.obj
    exact ⟨dx, s _ _ e⟩, h.fl.same s, h.most, h.fit⟩
section
variable {P : Program} {w : World} {K : PySem.W.Frag} {mg : Str → Option Value} {base : Heap} {a : Ad}
/-! ### has_machine(self, i) -/
def spHas (a : Ad) : Sp := fun vs H Q _ => ∃ (wa l : Addr) (ws : Sr120.Workshop) (ps : List Addr) (i : Int), vs = [.ref wa, .int i] ∧ WallAt a H wa l ws ps ∧ Q (.bl (Sr120.isMachine ws i)) H
theorem sc_has : FnScope ["self", "i"] ["self", "i"] (defScope s_Wall_has_machine) := ⟨rfl, rfl, rfl, by decide +kernel, rfl, by decide +kernel, by decide +kernel⟩
theorem ok_has (T : Txt K mg a) : Kept P w K mg base CX0 1 a.f_Wall_has_machine ["self", "i"] (spHas a) := by
  obtain ⟨fd, F⟩ := T.r.d_Wall_has_machine
  refine ⟨fd, F.ok sc_has (fun vs H Q E h => ?_) (fun cdv A outer s H vs Q E hr h => ?_), F.binds fun _ _ _ _ _ _ us hl => match us, hl with | [_, _], _ => rfl, F.kp⟩
  · obtain ⟨wa, l, ws, ps, i, rfl, _⟩ := h
    rfl
  · refine ⟨_, pss_one (ps_ret (pe_chain op_le op_lt pe_int (pv 1) (pe_callB call_len_seq (by rfl) (T.z T.r.z_len) PySem.boot_len (pa_cons (pe_fld (pv 0) rfl) pa_nil)))), ?_⟩
    obtain ⟨wa, l, ws, ps, i, rfl, hw, k⟩ := h
    obtain ⟨dx, hd⟩ := hw.obj
    refine ⟨_, rfl, _, _, rfl, rfl, _, rfl, ite2 (fun c => ?_) (fun c => ?_)⟩
    · have c := of_decide_eq_true c
      refine ⟨_, rfl, wa, _, dx, _, _, rfl, hd, T.r.c_Wall.cl, T.r.a_Wall_machines, wlF_get, l, _, rfl, .inl (.of hw.fl.lst), _, _, rfl, rfl, ?_⟩
      have e : decide (i < (((ps.map V.ref).length : Nat) : Int)) = Sr120.isMachine ws i := by
        rw [Bool.eq_iff_iff, Tw.isMachine_iff, decide_eq_true_eq, List.length_map, hw.fl.len]
        omega
      show Q (.bl (decide (i < (((ps.map V.ref).length : Nat) : Int)))) H
      rw [e]
      exact k
    · have c : ¬ (0 ≤ i) := fun z => c (decide_eq_true z)
      have e : Sr120.isMachine ws i = false := by
        rw [Bool.eq_false_iff]
        intro z
        exact c (Tw.isMachine_iff.mp z).1
      rw [e] at k
      exact k
theorem at_has (T : Txt K mg a) : Meth K a.c_Wall "has_machine" a.f_Wall_has_machine := by
  obtain ⟨fd, F⟩ := T.r.d_Wall_has_machine
  exact meth_mk T.r.m_Wall_has_machine T.r.y_Wall_has_machine F
/-! ### check_machine(self, i) -/
def spChk (a : Ad) : Sp := fun vs H Q E => ∃ (wa l : Addr) (ws : Sr120.Workshop) (ps : List Addr) (i : Int), vs = [.ref wa, .int i] ∧ WallAt a H wa l ws ps ∧ (Sr120.isMachine ws i = true → Q .non H) ∧ (Sr120.isMachine ws i = false → Bad a.c_NoSuchMachine (-2) H E)
theorem sc_chk : FnScope ["self", "i"] ["self", "i"] (defScope s_Wall_check_machine) := ⟨rfl, rfl, rfl, by decide +kernel, rfl, by decide +kernel, by decide +kernel⟩
theorem ok_chk (T : Txt K mg a) : Kept P w K mg base (L2.CX P w) 4 a.f_Wall_check_machine ["self", "i"] (spChk a) := by
  obtain ⟨fd, F⟩ := T.r.d_Wall_check_machine
  obtain ⟨f1, F1, b1, k1⟩ := (ok_NoSuchMachine (P := P) (w := w) (base := base) T).ex
  obtain ⟨f2, F2, b2, k2⟩ := (ok_has (P := P) (w := w) (base := base) T).ex
  refine ⟨fd, F.okX sc_chk (fun vs H Q E h => ?_) (fun cdv A outer s H vs Q E hr h => ?_), F.binds fun _ _ _ _ _ _ us hl => match us, hl with | [_, _], _ => rfl, F.kp⟩
  · obtain ⟨wa, l, ws, ps, i, rfl, _⟩ := h
    rfl
  · refine ⟨_, pss_one (ps_if (pt_not (pt_val (pe_meth (pv 0) T.r.c_Wall.cl (at_has T) F2 (hr.mono (by decide)) b2 .nil pass0 (pa_cons (pv 1) pa_nil))))
      (pss_one (ps_raise rfl (takes_of rfl rfl rfl rfl) (pmk_err0 T.r.e_NoSuchMachine.er T.r.m_NoSuchMachine_init T.r.y_NoSuchMachine_init F1 hr b1 pass0 rfl (T.g T.r.n_NoSuchMachine)))) pss_nil), ?_⟩
    obtain ⟨wa, l, ws, ps, i, rfl, hw, k1, k2⟩ := h
    obtain ⟨dx, hd⟩ := hw.obj
    refine ⟨_, rfl, wa, dx, _, rfl, hd, wlF_no (by decide +kernel), _, rfl, wa, l, ws, ps, i, rfl, hw, _, rfl, ?_⟩
    cases c : Sr120.isMachine ws i with
    | true => exact iteF (k1 c)
    | false => exact iteT (err_raise T.r.e_NoSuchMachine.er T.r.g_NoSuchMachine (k2 c))
theorem at_chk (T : Txt K mg a) : Meth K a.c_Wall "check_machine" a.f_Wall_check_machine := by
  obtain ⟨fd, F⟩ := T.r.d_Wall_check_machine
  exact meth_mk T.r.m_Wall_check_machine T.r.y_Wall_check_machine F
end
end Tp

set_option maxRecDepth 100000
set_option maxHeartbeats 4000000
namespace Tp
open PySem PySem.Spec PyProof.Rows L2 TwX TwY
def seenK (l : List Int) : List (L2.Key × V) := l.map fun z => ((Sum.inl z : L2.Key), V.bl true)
theorem seenK_get : ∀ (l : List Int) (i : Int), (valV (seenK l) (Sum.inl i : L2.Key)).isSome = decide (i ∈ l)
  | [], i => by
    rw [decide_eq_false (by intro z; cases z)]
    rfl
  | z :: r, i => by
    by_cases h : z = i
    · have e : valV (seenK (z :: r)) (Sum.inl i : L2.Key) = some (V.bl true) := valV_pos (congrArg Sum.inl h)
      rw [e, decide_eq_true (List.mem_cons.mpr (.inl h.symm))]
      rfl
    · have e : valV (seenK (z :: r)) (Sum.inl i : L2.Key) = valV (seenK r) (Sum.inl i : L2.Key) := by
        unfold valV seenK
        rw [List.map_cons, List.find?_cons_of_neg]
        intro q
        exact h (Sum.inl.inj (of_decide_eq_true q))
      rw [e, seenK_get r i, decide_eq_decide, List.mem_cons]
      exact ⟨.inr, fun q => q.resolve_left fun e => h e.symm⟩
theorem seenK_put {l : List Int} {i : Int} (h : i ∉ l) : putK (seenK l) (Sum.inl i : L2.Key) (V.bl true) = seenK (l ++ [i]) := by
  unfold putK
  rw [if_neg]
  · unfold seenK
    rw [List.map_append]
    rfl
  · intro q
    obtain ⟨kv, h1, h2⟩ := List.any_eq_true.mp q
    obtain ⟨z, hz, rfl⟩ := List.mem_map.mp h1
    have e := Sum.inl.inj (of_decide_eq_true h2)
    subst e
    exact h hz
section
variable {P : Program} {w : World} {K : PySem.W.Frag} {mg : Str → Option Value} {base : Heap} {a : Ad}
/-! ### check_tour(self, tour); slots: self, tour, seen, i -/
def spTour (a : Ad) (K : PySem.W.Frag) : Sp := fun vs H Q E => ∃ (wa l t : Addr) (ws : Sr120.Workshop) (ps : List Addr) (tour : List Int), vs = [.ref wa, .ref t] ∧ WallAt a H wa l ws ps ∧ SqL K H t (intv tour) ∧ tour.length ≤ 100 ∧
  (Sr120.isTour ws tour = true → ∀ H', Same H H' → Q .non H') ∧ (Sr120.isTour ws tour = false → Bad a.c_BadParameter (-22) H E)
theorem sc_tour : FnScope ["self", "tour", "seen", "i"] ["self", "tour"] (defScope s_Wall_check_tour) := ⟨rfl, rfl, rfl, by decide +kernel, rfl, by decide +kernel, by decide +kernel⟩
theorem ok_tour (T : Txt K mg a) : Kept P w K mg base (L2.CX P w) 4 a.f_Wall_check_tour ["self", "tour"] (spTour a K) := by
  obtain ⟨fd, F⟩ := T.r.d_Wall_check_tour
  obtain ⟨f1, F1, b1, k1⟩ := (ok_BadParameter (P := P) (w := w) (base := base) T).ex
  obtain ⟨f2, F2, b2, k2⟩ := (ok_has (P := P) (w := w) (base := base) T).ex
  refine ⟨fd, F.okX sc_tour (fun vs H Q E h => ?_) (fun cdv A outer s H vs Q E hr h => ?_), F.binds fun _ _ _ _ _ _ us hl => match us, hl with | [_, _], _ => rfl, F.kp⟩
  · obtain ⟨wa, l, t, ws, ps, i, rfl, _⟩ := h
    rfl
  · refine ⟨_, pss_cons (ps_set (i := 2) sc_tour.nd rfl (.inl rfl) pe_dnewK)
      (pss_one (ps_for (passes_of rfl) rfl (pi_list (pv 1)) (pg_name (i := 3) sc_tour.nd rfl (.inl rfl))
        (pss_cons (ps_if (PW.pt (pw_or (pt_cmp (pc_din (hu_of hr) (pv 3) (pv 2))) (pw_or1 (pt_not (pt_val (pe_meth (pv 0) T.r.c_Wall.cl (at_has T) F2 (hr.mono (by decide)) b2 .nil pass0 (pa_cons (pv 3) pa_nil)))))))
          (pss_one (ps_raise rfl (takes_of rfl rfl rfl rfl) (pmk_err0 T.r.e_BadParameter.er T.r.m_BadParameter_init T.r.y_BadParameter_init F1 hr b1 pass0 rfl (T.g T.r.n_BadParameter)))) pss_nil)
        (pss_one (ps_dput (hu_of hr) (pv 2) (pv 3) pe_bl rfl))))), ?_⟩
    obtain ⟨wa, l, t, ws, ps, tour, rfl, hw, ht, hlen, k1, k2⟩ := h
    refine fun d hd => ⟨_, rfl, t, rfl, ⟨_, (same_new hd).seq ht⟩, for_list (xs := intv tour) (fun k σ H' => H' = upd H d (.dK (seenK (tour.take k))) ∧ (∃ v3, σ = [some (.ref wa), some (.ref t), some (.ref d), v3]) ∧ ∀ i z, i < k → tour[i]? = some z → z ∉ tour.take i ∧ Sr120.isMachine ws z = true)
      ⟨rfl, ⟨_, rfl⟩, fun i z h => absurd h (Nat.not_lt_zero _)⟩ ?_ ?_ ?_⟩
    · rintro k σ H' _ ⟨rfl, _, _⟩
      exact (same_new hd).seq ht
    · rintro k x σ H' hx ⟨rfl, ⟨v3, rfl⟩, hq⟩
      have hk : k < tour.length := by
        have := (List.getElem?_eq_some_iff.mp hx).1
        rw [intv_len] at this
        exact this
      have e0 : tour[k]? = some tour[k] := List.getElem?_eq_getElem hk
      rw [intv_at e0] at hx
      cases hx
      refine ⟨_, rfl, _, rfl, d, _, rfl, DGet.k (k := Sum.inl tour[k]) upd_same, _, rfl, ?_⟩
      rw [seenK_get]
      refine ite2 (fun c => ?_) (fun c => ?_)
      · have c := of_decide_eq_true c
        refine iteT (err_raise T.r.e_BadParameter.er T.r.g_BadParameter ((k2 ?_).mono (same_new hd)))
        rw [Bool.eq_false_iff]
        exact fun z => (Tw.isTour_split e0 z).1 c
      · have c : tour[k] ∉ tour.take k := fun z => c (decide_eq_true z)
        have hw2 := hw.same (same_new (o := .dK (seenK (tour.take k))) hd)
        obtain ⟨dx, hdx⟩ := hw2.obj
        refine ⟨_, rfl, wa, dx, _, rfl, hdx, wlF_no (by decide +kernel), _, rfl, wa, l, ws, ps, tour[k], rfl, hw2, _, rfl, ?_⟩
        cases c2 : Sr120.isMachine ws tour[k] with
        | false =>
          refine iteT (err_raise T.r.e_BadParameter.er T.r.g_BadParameter ((k2 ?_).mono (same_new hd)))
          rw [Bool.eq_false_iff]
          intro z
          have := (Tw.isTour_split e0 z).2
          rw [c2] at this
          cases this
        | true =>
          refine iteF ⟨_, rfl, _, rfl, d, _, rfl, DPut.k (k := Sum.inl tour[k]) upd_same ?_, ?_, ⟨_, rfl⟩, fun i z hi hz => ?_⟩
          · unfold seenK
            rw [List.length_map]
            have : (tour.take k).length ≤ tour.length := List.length_take_le' ..
            exact small1000 (by omega)
          · rw [seenK_put c, upd_upd, ← take_at e0]
          · by_cases hik : i < k
            · exact hq i z hik hz
            · have : i = k := by omega
              subst this
              rw [e0] at hz
              cases hz
              exact ⟨c, c2⟩
    · rintro σ H' ⟨rfl, ⟨v3, rfl⟩, hq⟩
      refine k1 (Tw.isTour_all fun i z hz => ?_) _ (same_new hd)
      have := (List.getElem?_eq_some_iff.mp hz).1
      exact hq i z (by rw [intv_len]; exact this) hz
theorem at_tour (T : Txt K mg a) : Meth K a.c_Wall "check_tour" a.f_Wall_check_tour := by
  obtain ⟨fd, F⟩ := T.r.d_Wall_check_tour
  exact meth_mk T.r.m_Wall_check_tour T.r.y_Wall_check_tour F
end
end Tp

set_option maxRecDepth 100000
set_option maxHeartbeats 4000000
namespace Tp
open PySem PySem.Spec PyProof.Rows L2 TwX TwY
theorem rg_nats (n : Nat) : rgV 0 ((n : Nat) : Int) = nats (List.range n) := by
  unfold rgV nats
  rw [show (((n : Nat) : Int) - 0).toNat = n by omega]
  refine List.map_congr_left fun i _ => ?_
  rw [Int.zero_add]
theorem tour_nats {ws : Sr120.Workshop} {t : List Int} (h : Sr120.isTour ws t = true) : intv t = nats (SrCommon.intsToNats t) ∧ (∀ i ∈ SrCommon.intsToNats t, i < ws.length) ∧ (SrCommon.intsToNats t).length = t.length := by
  unfold Sr120.isTour at h
  rw [Bool.and_eq_true, List.all_eq_true] at h
  have q : ∀ z ∈ t, 0 ≤ z ∧ z < ws.length := fun z hz => Tw.isMachine_iff.mp (h.2 z hz)
  refine ⟨?_, fun i hi => ?_, List.length_map ..⟩
  · unfold intv nats SrCommon.intsToNats
    rw [List.map_map]
    refine List.map_congr_left fun z hz => ?_
    have := (q z hz).1
    show V.int z = V.int ((z.toNat : Nat) : Int)
    rw [Int.toNat_of_nonneg this]
  · obtain ⟨z, hz, rfl⟩ := List.mem_map.mp hi
    have := q z hz
    omega
section
variable {P : Program} {w : World} {K : PySem.W.Frag} {mg : Str → Option Value} {base : Heap} {a : Ad}
/-! ### all_members(self) -/
def spAll (a : Ad) : Sp := fun vs H Q _ => ∃ (wa l : Addr) (ws : Sr120.Workshop) (ps : List Addr), vs = [.ref wa] ∧ WallAt a H wa l ws ps ∧ ∀ H' r, Same H H' → H r = none → H' r = some (.lst (nats (Sr120.allMachines ws))) → Q (.ref r) H'
theorem sc_all : FnScope ["self"] ["self"] (defScope s_Wall_all_members) := ⟨rfl, rfl, rfl, by decide +kernel, rfl, by decide +kernel, by decide +kernel⟩
theorem ok_all (T : Txt K mg a) : Kept P w K mg base CX0 1 a.f_Wall_all_members ["self"] (spAll a) := by
  obtain ⟨fd, F⟩ := T.r.d_Wall_all_members
  refine ⟨fd, F.ok sc_all (fun vs H Q E h => ?_) (fun cdv A outer s H vs Q E hr h => ?_), F.binds fun _ _ _ _ _ _ us hl => match us, hl with | [_], _ => rfl, F.kp⟩
  · obtain ⟨wa, l, ws, ps, rfl, _⟩ := h
    rfl
  · refine ⟨_, pss_one (ps_ret (pe_listRg rfl rfl (T.z T.r.z_list) (prg_1 rfl (T.z T.r.z_range) (pe_callB call_len_seq (by rfl) (T.z T.r.z_len) PySem.boot_len (pa_cons (pe_fld (pv 0) rfl) pa_nil))))), ?_⟩
    obtain ⟨wa, l, ws, ps, rfl, hw, k⟩ := h
    obtain ⟨dx, hd⟩ := hw.obj
    have e : (ps.map V.ref).length = ws.length := by rw [List.length_map, hw.fl.len]
    have m := hw.most
    refine ⟨_, rfl, wa, _, dx, _, _, rfl, hd, T.r.c_Wall.cl, T.r.a_Wall_machines, wlF_get, l, _, rfl, .inl (.of hw.fl.lst), _, rfl, ?_, fun q nq => k _ q (same_new nq) nq (upd_same.trans (congrArg (fun z => some (HO.lst z)) ?_))⟩
    · rw [e]
      unfold RgOk
      omega
    · rw [e]
      exact rg_nats _
theorem at_all (T : Txt K mg a) : Meth K a.c_Wall "all_members" a.f_Wall_all_members := by
  obtain ⟨fd, F⟩ := T.r.d_Wall_all_members
  exact meth_mk T.r.m_Wall_all_members T.r.y_Wall_all_members F
/-! ### min_cycle_time(self), best_tour(self) -/
def spWMin (a : Ad) : Sp := fun vs H Q _ => ∃ (wa l : Addr) (ws : Sr120.Workshop) (ps : List Addr), vs = [.ref wa] ∧ WallAt a H wa l ws ps ∧ ∀ H', Same H H' → Q (.int (Sr120.minCycleTime ws (Sr120.allMachines ws) : Nat)) H'
theorem sc_wmin : FnScope ["self"] ["self"] (defScope s_Wall_min_cycle_time) := ⟨rfl, rfl, rfl, by decide +kernel, rfl, by decide +kernel, by decide +kernel⟩
theorem ok_wmin (T : Txt K mg a) : Kept P w K mg base CX0 4 a.f_Wall_min_cycle_time ["self"] (spWMin a) := by
  obtain ⟨fd, F⟩ := T.r.d_Wall_min_cycle_time
  obtain ⟨f1, F1, b1, k1⟩ := (ok_mincycle (P := P) (w := w) (base := base) T).ex
  obtain ⟨f2, F2, b2, k2⟩ := (ok_all (P := P) (w := w) (base := base) T).ex
  refine ⟨fd, F.ok sc_wmin (fun vs H Q E h => ?_) (fun cdv A outer s H vs Q E hr h => ?_), F.binds fun _ _ _ _ _ _ us hl => match us, hl with | [_], _ => rfl, F.kp⟩
  · obtain ⟨wa, l, ws, ps, rfl, _⟩ := h
    rfl
  · refine ⟨_, pss_one (ps_ret (pe_call F1 hr rfl (T.g T.r.n_find_min_cycle_time) k1 b1 .nil pass0 (pa_cons (pe_fld (pv 0) rfl) (pa_cons (pe_meth0 (pv 0) T.r.c_Wall.cl (at_all T) F2 (hr.mono (by decide)) b2 .nil pass0) pa_nil)))), ?_⟩
    obtain ⟨wa, l, ws, ps, rfl, hw, k⟩ := h
    obtain ⟨dx, hd⟩ := hw.obj
    refine ⟨_, rfl, wa, _, dx, _, _, rfl, hd, T.r.c_Wall.cl, T.r.a_Wall_machines, wlF_get, _, rfl, wa, dx, _, rfl, hd, wlF_no (by decide +kernel), wa, l, ws, ps, rfl, hw, fun H1 r S1 _ e1 => ⟨l, r, ws, Sr120.allMachines ws, rfl, hw.fl.fleet.same S1, .of e1, fun i hi => List.mem_range.mp hi, ?_, fun H2 S2 => ?_⟩⟩
    · have := hw.most
      unfold Sr120.allMachines
      rw [List.length_range]
      omega
    · exact qint (Q := Q) (congrArg Nat.cast (Tw.min_closed ws _ (List.nodup_range)).symm) (k H2 (S1.trans S2))
def spWBest (a : Ad) : Sp := fun vs H Q _ => ∃ (wa l : Addr) (ws : Sr120.Workshop) (ps : List Addr), vs = [.ref wa] ∧ WallAt a H wa l ws ps ∧ ∀ H' r, Same H H' → H r = none → H' r = some (.lst (nats (Sr120.bestTour ws (Sr120.allMachines ws)))) → Q (.ref r) H'
theorem sc_wbest : FnScope ["self"] ["self"] (defScope s_Wall_best_tour) := ⟨rfl, rfl, rfl, by decide +kernel, rfl, by decide +kernel, by decide +kernel⟩
theorem ok_wbest (T : Txt K mg a) : Kept P w K mg base CX0 7 a.f_Wall_best_tour ["self"] (spWBest a) := by
  obtain ⟨fd, F⟩ := T.r.d_Wall_best_tour
  obtain ⟨f1, F1, b1, k1⟩ := (ok_best (P := P) (w := w) (base := base) T).ex
  obtain ⟨f2, F2, b2, k2⟩ := (ok_all (P := P) (w := w) (base := base) T).ex
  refine ⟨fd, F.ok sc_wbest (fun vs H Q E h => ?_) (fun cdv A outer s H vs Q E hr h => ?_), F.binds fun _ _ _ _ _ _ us hl => match us, hl with | [_], _ => rfl, F.kp⟩
  · obtain ⟨wa, l, ws, ps, rfl, _⟩ := h
    rfl
  · refine ⟨_, pss_one (ps_ret (pe_call F1 hr rfl (T.g T.r.n_find_best_tour) k1 b1 .nil pass0 (pa_cons (pe_fld (pv 0) rfl) (pa_cons (pe_meth0 (pv 0) T.r.c_Wall.cl (at_all T) F2 (hr.mono (by decide)) b2 .nil pass0) pa_nil)))), ?_⟩
    obtain ⟨wa, l, ws, ps, rfl, hw, k⟩ := h
    obtain ⟨dx, hd⟩ := hw.obj
    exact ⟨_, rfl, wa, _, dx, _, _, rfl, hd, T.r.c_Wall.cl, T.r.a_Wall_machines, wlF_get, _, rfl, wa, dx, _, rfl, hd, wlF_no (by decide +kernel), wa, l, ws, ps, rfl, hw, fun H1 r S1 _ e1 => ⟨l, r, ws, Sr120.allMachines ws, rfl, hw.fl.fleet.same S1, .of e1, Tw.mem_range hw.most, fun i hi => List.mem_range.mp hi,
      fun H2 r2 S2 n2 e2 => k H2 r2 (S1.trans S2) (S1.free n2) e2⟩⟩
theorem ok_walkT (T : Txt K mg a) : Kept P w K mg base CX0 3 a.f_find_walking_time ["machines", "tour"] (spT a K Sr120.walkTime) := by
  obtain ⟨f1, F1, b1, k1⟩ := (ok_walk (P := P) (w := w) (base := base) T).ex
  refine ⟨f1, F1.imp fun vs H Q E h => ?_, b1, k1⟩
  obtain ⟨l, t, ws, tour, e, hF, hT, hi, hlen, k⟩ := h
  exact ⟨l, t, ws, tour, e, hF, hT, hi, hlen, k H (Same.refl H)⟩
theorem at_wmin (T : Txt K mg a) : Meth K a.c_Wall "min_cycle_time" a.f_Wall_min_cycle_time := by
  obtain ⟨fd, F⟩ := T.r.d_Wall_min_cycle_time
  exact meth_mk T.r.m_Wall_min_cycle_time T.r.y_Wall_min_cycle_time F
theorem at_wbest (T : Txt K mg a) : Meth K a.c_Wall "best_tour" a.f_Wall_best_tour := by
  obtain ⟨fd, F⟩ := T.r.d_Wall_best_tour
  exact meth_mk T.r.m_Wall_best_tour T.r.y_Wall_best_tour F
/-! ### cycle_time(self, tour), busy_time, walking_time -/
def spWTour (a : Ad) (K : PySem.W.Frag) (v : Sr120.Workshop → List Nat → Nat) : Sp := fun vs H Q E => ∃ (wa l t : Addr) (ws : Sr120.Workshop) (ps : List Addr) (tour : List Int), vs = [.ref wa, .ref t] ∧ WallAt a H wa l ws ps ∧ SqL K H t (intv tour) ∧ tour.length ≤ 100 ∧
  (Sr120.isTour ws tour = true → ∀ H', Same H H' → Q (.int (v ws (SrCommon.intsToNats tour) : Nat)) H') ∧ (Sr120.isTour ws tour = false → Bad a.c_BadParameter (-22) H E)
theorem sc_wcycle : FnScope ["self", "tour"] ["self", "tour"] (defScope s_Wall_cycle_time) := ⟨rfl, rfl, rfl, by decide +kernel, rfl, by decide +kernel, by decide +kernel⟩
theorem ok_wcycle (T : Txt K mg a) : Kept P w K mg base (L2.CX P w) 6 a.f_Wall_cycle_time ["self", "tour"] (spWTour a K Sr120.cycleTime) := by
  obtain ⟨fd, F⟩ := T.r.d_Wall_cycle_time
  obtain ⟨f1, F1, b1, k1⟩ := (ok_cycle (P := P) (w := w) (base := base) T).ex
  obtain ⟨f2, F2, b2, k2⟩ := (ok_tour (P := P) (w := w) (base := base) T).ex
  refine ⟨fd, F.okX sc_wcycle (fun vs H Q E h => ?_) (fun cdv A outer s H vs Q E hr h => ?_), F.binds fun _ _ _ _ _ _ us hl => match us, hl with | [_, _], _ => rfl, F.kp⟩
  · obtain ⟨wa, l, t, ws, ps, i, rfl, _⟩ := h
    rfl
  · refine ⟨_, pss_cons (ps_expr (pe_meth (pv 0) T.r.c_Wall.cl (at_tour T) F2 (hr.mono (by decide)) b2 .nil (passes_call (takes_of rfl rfl rfl rfl) (fun _ _ _ _ z => z)) (pa_cons (pv 1) pa_nil)))
      (pss_one (ps_ret (pe_call F1 (hr.mono (by decide)) rfl (T.g T.r.n_find_cycle_time) k1 b1 .nil pass0 (pa_cons (pe_fld (pv 0) rfl) (pa_cons (pv 1) pa_nil))))), ?_⟩
    obtain ⟨wa, l, t, ws, ps, tour, rfl, hw, ht, hlen, k1, k2⟩ := h
    obtain ⟨dx, hd⟩ := hw.obj
    refine ⟨_, rfl, wa, dx, _, rfl, hd, wlF_no (by decide +kernel), _, rfl, wa, l, t, ws, ps, tour, rfl, hw, ht, hlen, fun c H1 S1 => ?_, k2⟩
    obtain ⟨e1, e2, e3⟩ := tour_nats c
    refine ⟨_, rfl, wa, _, dx, _, _, rfl, S1 _ _ hd, T.r.c_Wall.cl, T.r.a_Wall_machines, wlF_get, _, rfl, l, t, ws, SrCommon.intsToNats tour, rfl, hw.fl.fleet.same S1, by rw [← e1]; exact S1.seq ht, e2, by omega, fun H2 S2 => k1 c H2 (S1.trans S2)⟩
theorem at_wcycle (T : Txt K mg a) : Meth K a.c_Wall "cycle_time" a.f_Wall_cycle_time := by
  obtain ⟨fd, F⟩ := T.r.d_Wall_cycle_time
  exact meth_mk T.r.m_Wall_cycle_time T.r.y_Wall_cycle_time F
theorem sc_wbusy : FnScope ["self", "tour"] ["self", "tour"] (defScope s_Wall_busy_time) := ⟨rfl, rfl, rfl, by decide +kernel, rfl, by decide +kernel, by decide +kernel⟩
theorem ok_wbusy (T : Txt K mg a) : Kept P w K mg base (L2.CX P w) 5 a.f_Wall_busy_time ["self", "tour"] (spWTour a K Sr120.busyTime) := by
  obtain ⟨fd, F⟩ := T.r.d_Wall_busy_time
  obtain ⟨f1, F1, b1, k1⟩ := (ok_busy (P := P) (w := w) (base := base) T).ex
  obtain ⟨f2, F2, b2, k2⟩ := (ok_tour (P := P) (w := w) (base := base) T).ex
  refine ⟨fd, F.okX sc_wbusy (fun vs H Q E h => ?_) (fun cdv A outer s H vs Q E hr h => ?_), F.binds fun _ _ _ _ _ _ us hl => match us, hl with | [_, _], _ => rfl, F.kp⟩
  · obtain ⟨wa, l, t, ws, ps, i, rfl, _⟩ := h
    rfl
  · refine ⟨_, pss_cons (ps_expr (pe_meth (pv 0) T.r.c_Wall.cl (at_tour T) F2 (hr.mono (by decide)) b2 .nil (passes_call (takes_of rfl rfl rfl rfl) (fun _ _ _ _ z => z)) (pa_cons (pv 1) pa_nil)))
      (pss_one (ps_ret (pe_call F1 (hr.mono (by decide)) rfl (T.g T.r.n_find_busy_time) k1 b1 .nil pass0 (pa_cons (pe_fld (pv 0) rfl) (pa_cons (pv 1) pa_nil))))), ?_⟩
    obtain ⟨wa, l, t, ws, ps, tour, rfl, hw, ht, hlen, k1, k2⟩ := h
    obtain ⟨dx, hd⟩ := hw.obj
    refine ⟨_, rfl, wa, dx, _, rfl, hd, wlF_no (by decide +kernel), _, rfl, wa, l, t, ws, ps, tour, rfl, hw, ht, hlen, fun c H1 S1 => ?_, k2⟩
    obtain ⟨e1, e2, e3⟩ := tour_nats c
    refine ⟨_, rfl, wa, _, dx, _, _, rfl, S1 _ _ hd, T.r.c_Wall.cl, T.r.a_Wall_machines, wlF_get, _, rfl, l, t, ws, SrCommon.intsToNats tour, rfl, hw.fl.fleet.same S1, by rw [← e1]; exact S1.seq ht, e2, by omega, fun H2 S2 => k1 c H2 (S1.trans S2)⟩
theorem at_wbusy (T : Txt K mg a) : Meth K a.c_Wall "busy_time" a.f_Wall_busy_time := by
  obtain ⟨fd, F⟩ := T.r.d_Wall_busy_time
  exact meth_mk T.r.m_Wall_busy_time T.r.y_Wall_busy_time F
theorem sc_wwalk : FnScope ["self", "tour"] ["self", "tour"] (defScope s_Wall_walking_time) := ⟨rfl, rfl, rfl, by decide +kernel, rfl, by decide +kernel, by decide +kernel⟩
theorem ok_wwalk (T : Txt K mg a) : Kept P w K mg base (L2.CX P w) 5 a.f_Wall_walking_time ["self", "tour"] (spWTour a K Sr120.walkTime) := by
  obtain ⟨fd, F⟩ := T.r.d_Wall_walking_time
  obtain ⟨f1, F1, b1, k1⟩ := (ok_walkT (P := P) (w := w) (base := base) T).ex
  obtain ⟨f2, F2, b2, k2⟩ := (ok_tour (P := P) (w := w) (base := base) T).ex
  refine ⟨fd, F.okX sc_wwalk (fun vs H Q E h => ?_) (fun cdv A outer s H vs Q E hr h => ?_), F.binds fun _ _ _ _ _ _ us hl => match us, hl with | [_, _], _ => rfl, F.kp⟩
  · obtain ⟨wa, l, t, ws, ps, i, rfl, _⟩ := h
    rfl
  · refine ⟨_, pss_cons (ps_expr (pe_meth (pv 0) T.r.c_Wall.cl (at_tour T) F2 (hr.mono (by decide)) b2 .nil (passes_call (takes_of rfl rfl rfl rfl) (fun _ _ _ _ z => z)) (pa_cons (pv 1) pa_nil)))
      (pss_one (ps_ret (pe_call F1 (hr.mono (by decide)) rfl (T.g T.r.n_find_walking_time) k1 b1 .nil pass0 (pa_cons (pe_fld (pv 0) rfl) (pa_cons (pv 1) pa_nil))))), ?_⟩
    obtain ⟨wa, l, t, ws, ps, tour, rfl, hw, ht, hlen, k1, k2⟩ := h
    obtain ⟨dx, hd⟩ := hw.obj
    refine ⟨_, rfl, wa, dx, _, rfl, hd, wlF_no (by decide +kernel), _, rfl, wa, l, t, ws, ps, tour, rfl, hw, ht, hlen, fun c H1 S1 => ?_, k2⟩
    obtain ⟨e1, e2, e3⟩ := tour_nats c
    refine ⟨_, rfl, wa, _, dx, _, _, rfl, S1 _ _ hd, T.r.c_Wall.cl, T.r.a_Wall_machines, wlF_get, _, rfl, l, t, ws, SrCommon.intsToNats tour, rfl, hw.fl.fleet.same S1, by rw [← e1]; exact S1.seq ht, e2, by omega, fun H2 S2 => k1 c H2 (S1.trans S2)⟩
theorem at_wwalk (T : Txt K mg a) : Meth K a.c_Wall "walking_time" a.f_Wall_walking_time := by
  obtain ⟨fd, F⟩ := T.r.d_Wall_walking_time
  exact meth_mk T.r.m_Wall_walking_time T.r.y_Wall_walking_time F
end
end Tp

set_option maxRecDepth 100000
set_option maxHeartbeats 4000000
namespace Tp
open PySem PySem.Spec PyProof.Rows L2 TwX TwY
theorem cutV_drop (l : List V) (k : Nat) : cutV l (some (k : Int)) none = l.drop k := by
  unfold cutV
  rw [HT.sIx_nat, HT.sIx_none]
  rcases Nat.le_total k l.length with c | c
  · rw [Nat.min_eq_left c, List.take_of_length_le (by rw [List.length_drop]; omega)]
  · rw [Nat.min_eq_right c, List.drop_eq_nil_of_le c, List.drop_eq_nil_of_le (Nat.le_refl _), List.take_nil]
theorem cutV_take (l : List V) (k : Nat) : cutV l none (some (k : Int)) = l.take k := by
  unfold cutV
  rw [HT.sIx_nat, HT.sIx_none, List.drop_zero, Nat.sub_zero]
  rcases Nat.le_total k l.length with c | c
  · rw [Nat.min_eq_left c]
  · rw [Nat.min_eq_right c, List.take_of_length_le (Nat.le_refl _), List.take_of_length_le c]
/-- a comprehension that takes one thing of each item, and makes nothing else -/
theorem lc_gen {K : PySem.W.Frag} {t : Addr} {src : List V} {te : TE} {vs : List Nat} {i : Nat} {σ : L2.St} {H : Hp} {D : Addr} {Qd : Hp → Prop} (g : V → V) (hD : H D = none) (hT : SqL K H t src) (hlen : src.length ≤ 100)
    (hv : ∀ x, wipe ((wipe σ vs).set i (some x)) vs = wipe σ vs) (he : ∀ x ∈ src, ∀ H', Same H H' → ∀ Q : V → Hp → Prop, Q (g x) H' → te ((wipe σ vs).set i (some x)) H' Q)
    (hq : Qd (upd H D (.lst (src.map g)))) :
    ∃ W : Nat → Nat → Hp → Prop, (∃ m, W 0 m (upd H D (.lst []))) ∧ ∀ i2 m H2, W i2 m H2 →
      ((Itl K t).stop i2 H2 ∧ Qd H2) ∨ ((Itl K t).go i2 H2 ∧ ∃ Nx : Hp → Prop, (∀ H', Nx H' → ∃ m', m' < m ∧ W (i2 + 1) m' H') ∧
        ∀ x H', (Itl K t).yld i2 H2 x H' → gName i x (wipe σ vs) H' fun σ2 H2 => wipe σ2 vs = wipe σ vs ∧ tYes σ2 H2 fun b H3 =>
          if b = true then te σ2 H3 fun y H4 => ∃ acc, H4 D = some (.lst acc) ∧ acc.length < sizeLine ∧ Nx (upd H4 D (.lst (acc ++ [y]))) else Nx H3) := by
  refine lc_list (xs := src) (fun i H' => H' = upd H D (.lst ((src.take i).map g))) rfl ?_ ?_ ?_
  · rintro k H' _ rfl
    exact (same_new hD).seq hT
  · rintro k x H' hx rfl
    refine ⟨hv _, ?_⟩
    unfold tYes
    dsimp only
    rw [if_pos rfl]
    refine he x (List.mem_of_getElem? hx) _ (same_new hD) _ ⟨_, upd_same, ?_, ?_⟩
    · rw [List.length_map]
      have : (src.take k).length ≤ src.length := List.length_take_le' ..
      exact small1000 (by omega)
    · rw [upd_upd, take_at hx, List.map_append]
      rfl
  · rintro H' rfl
    rw [List.take_length]
    exact hq
/-- at t the list of new pairs -/
def Pairs (H : Hp) (rs : List Addr) (s : List Nat) (p : Nat → Nat) : Prop := rs.length = s.length ∧ ∀ (i : Nat) (r : Addr) (j : Nat), rs[i]? = some r → s[i]? = some j → H r = some (.tup [.int (p j : Nat), .int (j : Nat)])
/-- a comprehension that makes a pair of each index -/
theorem lc_pair {K : PySem.W.Frag} {t : Addr} {tour : List Nat} {te : TE} {vs : List Nat} {i : Nat} {σ : L2.St} {H : Hp} {D : Addr} {Qd : Hp → Prop} (p : Nat → Nat) (hD : H D = none) (hT : SqL K H t (nats tour)) (hlen : tour.length ≤ 100)
    (hv : ∀ x, wipe ((wipe σ vs).set i (some x)) vs = wipe σ vs) (he : ∀ j ∈ tour, ∀ H', Same H H' → ∀ Q : V → Hp → Prop, (∀ r, H' r = none → Q (.ref r) (upd H' r (.tup [.int (p j : Nat), .int (j : Nat)]))) → te ((wipe σ vs).set i (some (.int (j : Nat)))) H' Q)
    (hq : ∀ rs H', Same H H' → H' D = some (.lst (rs.map V.ref)) → Pairs H' rs tour p → Qd H') :
    ∃ W : Nat → Nat → Hp → Prop, (∃ m, W 0 m (upd H D (.lst []))) ∧ ∀ i2 m H2, W i2 m H2 →
      ((Itl K t).stop i2 H2 ∧ Qd H2) ∨ ((Itl K t).go i2 H2 ∧ ∃ Nx : Hp → Prop, (∀ H', Nx H' → ∃ m', m' < m ∧ W (i2 + 1) m' H') ∧
        ∀ x H', (Itl K t).yld i2 H2 x H' → gName i x (wipe σ vs) H' fun σ2 H2 => wipe σ2 vs = wipe σ vs ∧ tYes σ2 H2 fun b H3 =>
          if b = true then te σ2 H3 fun y H4 => ∃ acc, H4 D = some (.lst acc) ∧ acc.length < sizeLine ∧ Nx (upd H4 D (.lst (acc ++ [y]))) else Nx H3) := by
  refine lc_list (xs := nats tour) (fun i H' => Same H H' ∧ ∃ rs, H' D = some (.lst (rs.map V.ref)) ∧ Pairs H' rs (tour.take i) p) ⟨same_new hD, [], upd_same, rfl, fun i r j h => by cases h⟩ ?_ ?_ ?_
  · rintro k H' _ ⟨S, _⟩
    exact S.seq hT
  · rintro k x H' hx ⟨S, rs, e1, e2, e3⟩
    obtain ⟨j, hj, hm, rfl⟩ := nats_at hx
    refine ⟨hv _, ?_⟩
    unfold tYes
    dsimp only
    rw [if_pos rfl]
    have hk : (tour.take k).length = k := by
      have := (List.getElem?_eq_some_iff.mp hj).1
      rw [List.length_take]
      omega
    refine he j hm _ S _ fun r nr => ?_
    have hrD : r ≠ D := fun e => by
      rw [e, e1] at nr
      cases nr
    refine ⟨_, (upd_ne (Ne.symm hrD)).trans e1, ?_, fun b o e => ?_, rs ++ [r], ?_, ?_, fun m q z h1 h2 => ?_⟩
    · rw [List.length_map, e2, hk]
      have := (List.getElem?_eq_some_iff.mp hj).1
      exact small1000 (by omega)
    · rw [upd_ne (ne_of_none e hD), upd_ne (ne_of_none (S _ _ e) nr)]
      exact S _ _ e
    · rw [upd_same, List.map_append]
      rfl
    · rw [List.length_append, e2, take_at hj, List.length_append]
      rfl
    · rw [take_at hj] at h2
      by_cases c : m < rs.length
      · rw [List.getElem?_append_left c] at h1
        rw [List.getElem?_append_left (by omega)] at h2
        have q0 := e3 m q z h1 h2
        have n1 : q ≠ D := fun e => by
          rw [e, e1] at q0
          cases q0
        rw [upd_ne n1, upd_ne (ne_of_none q0 nr)]
        exact q0
      · have hm2 := (List.getElem?_eq_some_iff.mp h1).1
        rw [List.length_append] at hm2
        have hm2 : m < rs.length + 1 := hm2
        have em : m = rs.length := by omega
        subst em
        rw [List.getElem?_append_right (Nat.le_refl _), Nat.sub_self] at h1
        rw [List.getElem?_append_right (by omega), e2, Nat.sub_self] at h2
        cases h1
        cases h2
        rw [upd_ne hrD, upd_same]
  · rintro H' ⟨S, rs, e1, e2⟩
    rw [nats_len, List.take_length] at e2
    exact hq rs H' S e1 e2
/-- what stands in a pair -/
def keyOf (H : Hp) : V → Int × Int
  | .ref t => match H t with
    | some (.tup [.int i, .int j]) => (i, j)
    | _ => (0, 0)
  | _ => (0, 0)
theorem keyOf_at {H : Hp} {r : Addr} {i j : Int} (h : H r = some (.tup [.int i, .int j])) : keyOf H (.ref r) = (i, j) := by
  show (match H r with | some (.tup [.int i, .int j]) => (i, j) | _ => (0, 0)) = _
  rw [h]
theorem Pairs.key {H : Hp} {rs : List Addr} {s : List Nat} {p : Nat → Nat} (h : Pairs H rs s p) {x : V} (hx : x ∈ rs.map V.ref) : ∃ (r : Addr) (j : Nat), x = .ref r ∧ r ∈ rs ∧ j ∈ s ∧ H r = some (.tup [.int (p j : Nat), .int (j : Nat)]) ∧ keyOf H x = (((p j : Nat) : Int), ((j : Nat) : Int)) := by
  obtain ⟨r, hr, rfl⟩ := List.mem_map.mp hx
  obtain ⟨i, hi⟩ := List.getElem?_of_mem hr
  have hl := (List.getElem?_eq_some_iff.mp hi).1
  have hs : s[i]? = some (s[i]'(by rw [← h.1]; exact hl)) := List.getElem?_eq_getElem (by rw [← h.1]; exact hl)
  have e := h.2 i r _ hi hs
  exact ⟨r, _, rfl, hr, List.mem_of_getElem? hs, e, keyOf_at e⟩
theorem Pairs.back {H : Hp} {rs : List Addr} {s : List Nat} {p : Nat → Nat} (h : Pairs H rs s p) : (rs.map V.ref).map (fun x => (keyOf H x).2.toNat) = s := by
  refine List.ext_getElem? fun i => ?_
  rw [List.getElem?_map, List.getElem?_map]
  by_cases c : i < rs.length
  · have hi : rs[i]? = some rs[i] := List.getElem?_eq_getElem c
    have hs : s[i]? = some (s[i]'(by rw [← h.1]; exact c)) := List.getElem?_eq_getElem (by rw [← h.1]; exact c)
    rw [hi, hs]
    show some ((keyOf H (.ref rs[i])).2.toNat) = _
    rw [keyOf_at (h.2 i _ _ hi hs)]
    rfl
  · rw [List.getElem?_eq_none (by omega), List.getElem?_eq_none (by rw [← h.1]; omega)]
    rfl
/-- the pairs in order are the wall order -/
theorem Pairs.order {H : Hp} {rs : List Addr} {s : List Nat} {ws : Sr120.Workshop} {ys : List V} (h : Pairs H rs s (Tw.pos ws)) (hs : s.Pairwise (· < ·)) (h1 : SrtO.Srtd (ltP (keyOf H)) ys) (h2 : ys.Perm (rs.map V.ref)) :
    ys.map (fun x => V.int (keyOf H x).2) = nats (Sr120.wallOrder ws s) := by
  have k : ∀ x ∈ ys, ∃ j : Nat, keyOf H x = (((Tw.pos ws j : Nat) : Int), ((j : Nat) : Int)) := fun x hx => by
    obtain ⟨r, j, _, _, _, _, e⟩ := h.key (h2.mem_iff.mp hx)
    exact ⟨j, e⟩
  have e : ys.map (fun x => (keyOf H x).2.toNat) = Sr120.wallOrder ws s := by
    refine Tw.order_one hs ?_ ?_
    · have q := h2.map fun x => (keyOf H x).2.toNat
      rw [h.back] at q
      exact q
    · refine List.pairwise_map.mpr (List.Pairwise.imp_of_mem (fun {x y} hx hy q => ?_) h1)
      obtain ⟨i, ei⟩ := k x hx
      obtain ⟨j, ej⟩ := k y hy
      have q := SrtO.lexB_no.mp q
      rw [ei, ej] at q ⊢
      show ¬ Tw.before ws (Int.toNat ((j : Nat) : Int)) (Int.toNat ((i : Nat) : Int))
      rw [Int.toNat_natCast, Int.toNat_natCast]
      unfold Tw.before
      have q : ¬ (((Tw.pos ws j : Nat) : Int) < ((Tw.pos ws i : Nat) : Int) ∨ (((Tw.pos ws j : Nat) : Int) = ((Tw.pos ws i : Nat) : Int) ∧ ((j : Nat) : Int) < ((i : Nat) : Int))) := q
      omega
  rw [← e]
  unfold nats
  rw [List.map_map]
  refine List.map_congr_left fun x hx => ?_
  obtain ⟨j, ej⟩ := k x hx
  show V.int (keyOf H x).2 = V.int (((keyOf H x).2.toNat : Nat) : Int)
  rw [ej]
  rfl
section
variable {P : Program} {w : World} {K : PySem.W.Frag} {mg : Str → Option Value} {base : Heap} {a : Ad}
/-! ### find_wall_order(machines, members); slots: machines, members, placed, i, pair -/
def spOrder (a : Ad) (K : PySem.W.Frag) : Sp := fun vs H Q _ => ∃ (l t : Addr) (ws : Sr120.Workshop) (s : List Nat), vs = [.ref l, .ref t] ∧ Fleet a.c_Machine H l ws ∧ SqL K H t (nats s) ∧ s.Pairwise (· < ·) ∧ (∀ i ∈ s, i < ws.length) ∧ s.length ≤ 100 ∧
  ∀ H' r, Same H H' → H r = none → H' r = some (.lst (nats (Sr120.wallOrder ws s))) → Q (.ref r) H'
theorem sc_order : FnScope ["machines", "members", "placed", "i", "pair"] ["machines", "members"] (defScope s_find_wall_order) := ⟨rfl, rfl, rfl, by decide +kernel, rfl, by decide +kernel, by decide +kernel⟩
theorem ok_order (T : Txt K mg a) : Kept P w K mg base CX0 1 a.f_find_wall_order ["machines", "members"] (spOrder a K) := by
  obtain ⟨fd, F⟩ := T.r.d_find_wall_order
  refine ⟨fd, F.ok sc_order (fun vs H Q E h => ?_) (fun cdv A outer s H vs Q E hr h => ?_), F.binds fun _ _ _ _ _ _ us hl => match us, hl with | [_, _], _ => rfl, F.kp⟩
  · obtain ⟨l, t, ws, s, rfl, _⟩ := h
    rfl
  · refine ⟨_, pss_cons (ps_set (i := 2) sc_order.nd rfl (.inl rfl) (pe_callB cr_sortedPO (by rfl) (T.z T.r.z_sorted) (by decide +kernel) (by exact (pa_cons (pe_lc (te := tTup (tCons (tFld K (tOp (rIxL K) (tVar 0) (tVar 3)) "position") (tCons (tVar 3) tNil))) (tt := tYes) (own := [("i", 3)]) (g := gName 3) rfl sc_order.nd
          (pi_list (pv 1)) (blkOk_by (N := ["machines", "members", "placed", "i", "pair"]) (sc := defScope s_find_wall_order) (by decide +kernel)) (fun _ _ _ _ _ => by exact (pg_name (i := 3) sc_order.nd rfl (Or.inl rfl)))
          (fun _ _ _ _ _ => pts_nil) (fun _ _ _ _ _ => by exact (pe_tup (pa_cons (pe_fld (pe_ix ix_list (pv 0) (pv 3) (fun _ _ => rfl)) rfl) (pa_cons (pv 3) pa_nil))))) pa_nil))))
      (pss_one (ps_ret (by exact (pe_lc (te := tOp (rIxT K) (tVar 4) (tC (.int 1))) (tt := tYes) (own := [("pair", 4)]) (g := gName 4) rfl sc_order.nd
          (pi_list (pv 2)) (blkOk_by (N := ["machines", "members", "placed", "i", "pair"]) (sc := defScope s_find_wall_order) (by decide +kernel)) (fun _ _ _ _ _ => by exact (pg_name (i := 4) sc_order.nd rfl (Or.inl rfl)))
          (fun _ _ _ _ _ => pts_nil) (fun _ _ _ _ _ => by exact (pe_ix ix_tup (pv 4) pe_int (fun _ _ => rfl))))))), ?_⟩
    obtain ⟨l, t, ws, s, rfl, hF, hT, hs, hi, hlen, k⟩ := h
    refine ⟨_, rfl, t, rfl, ⟨_, hT⟩, fun D hD => lc_pair (Tw.pos ws) hD hT hlen (fun _ => rfl) (fun j hj H' S Q' q => ?_) (fun rs H1 S1 e1 hp => ?_)⟩
    · obtain ⟨xs, p, dx, g1, g2, g3⟩ := (hF.same S).at (hi j hj)
      exact ⟨_, rfl, _, rfl, l, xs, _, _, rfl, rfl, .of g1, g2, p, _, dx, _, _, rfl, g3, T.r.c_Machine.cl, T.r.a_Machine_position, mF_pos _, _, rfl, (by show 2 ≤ sizeLine; decide), q⟩
    · refine ⟨D, _, keyOf H1, rfl, .of e1, fun x hx => ?_, fun ys r h1 h2 nr => ?_⟩
      · obtain ⟨r, j, rfl, _, _, e, ek⟩ := hp.key hx
        exact ⟨r, rfl, by rw [ek]; exact e⟩
      · have S2 := S1.trans (same_new (o := HO.lst ys) nr)
        have ylen : ys.length ≤ 100 := by
          rw [h2.perm.length_eq, List.length_map, hp.1]
          exact hlen
        refine ⟨_, rfl, r, rfl, ⟨_, .of upd_same⟩, fun D2 nD2 => lc_gen (src := ys) (fun x => .int (keyOf H1 x).2) nD2 (.of upd_same) ylen (fun _ => rfl) (fun x hx H' S Q' q => ?_) ?_⟩
        · obtain ⟨r2, j, rfl, _, _, e, ek⟩ := hp.key (h2.perm.mem_iff.mp hx)
          rw [ek] at q
          exact ⟨_, rfl, r2, _, _, _, rfl, rfl, .of (S _ _ (same_new nr _ _ e)), (show atI _ ((1 : Nat) : Int) = _ from atI_nat rfl), q⟩
        · refine k _ D2 (S2.trans (same_new nD2)) (S2.free nD2) (upd_same.trans (congrArg (fun z => some (HO.lst z)) ?_))
          exact hp.order hs h1 h2.perm
end
end Tp

set_option maxRecDepth 100000
set_option maxHeartbeats 4000000
namespace Tp
open PySem PySem.Spec PyProof.Rows L2 TwX TwY
theorem bits_int (m : Nat) : Builtin.Int.intBits (m : Int) = Tw.bits m := by
  unfold Builtin.Int.intBits Tw.bits
  by_cases c : m = 0
  · subst c
    rfl
  · rw [if_neg c, if_neg (by simpa using c), Int.natAbs_natCast]
theorem shr_int (m i : Nat) : ((m : Nat) : Int) / 2 ^ i = ((m / 2 ^ i : Nat) : Int) := by
  rw [Int.natCast_ediv, Int.natCast_pow]
  rfl
theorem one_bool (n : Nat) : decide (V.int ((n : Nat) : Int) = V.int 1) = (n == 1) := by
  rw [dec_int]
  rw [Bool.eq_iff_iff, beq_iff_eq, beq_iff_eq]
  omega
theorem le_bool (i j : Nat) : decide (((i : Nat) : Int) ≤ ((j : Nat) : Int)) = decide (i ≤ j) := by
  rw [decide_eq_decide]
  omega
section
variable {P : Program} {w : World} {K : PySem.W.Frag} {mg : Str → Option Value} {base : Heap} {a : Ad}
/-! ### count_masks(machines) -/
def spMasks (a : Ad) : Sp := fun vs H Q _ => ∃ (l : Addr) (ws : Sr120.Workshop), vs = [.ref l] ∧ Fleet a.c_Machine H l ws ∧ ws.length ≤ 6 ∧ Q (.int ((2 ^ ws.length : Nat) : Int)) H
theorem sc_masks : FnScope ["machines"] ["machines"] (defScope s_count_masks) := ⟨rfl, rfl, rfl, by decide +kernel, rfl, by decide +kernel, by decide +kernel⟩
theorem ok_masks (T : Txt K mg a) : Kept P w K mg base CX0 1 a.f_count_masks ["machines"] (spMasks a) := by
  obtain ⟨fd, F⟩ := T.r.d_count_masks
  refine ⟨fd, F.ok sc_masks (fun vs H Q E h => ?_) (fun cdv A outer s H vs Q E hr h => ?_), F.binds fun _ _ _ _ _ _ us hl => match us, hl with | [_], _ => rfl, F.kp⟩
  · obtain ⟨l, ws, rfl, _⟩ := h
    rfl
  · refine ⟨_, pss_one (ps_ret (pe_op op_oneShl pe_int (pe_callB call_len_seq (by rfl) (T.z T.r.z_len) PySem.boot_len (pa_cons (pv 0) pa_nil)))), ?_⟩
    obtain ⟨l, ws, rfl, hF, hm, k⟩ := h
    obtain ⟨ps, e1, e2, _⟩ := hF.ex
    refine ⟨_, rfl, l, _, rfl, .inl (.of e1), (ps.map V.ref).length, rfl, rfl, by rw [List.length_map]; omega, ?_⟩
    rw [List.length_map, e2]
    exact qint (Q := Q) (by rw [Int.natCast_pow]; rfl) k
/-! ### find_members(mask); slots: mask, i -/
def spMembers : Sp := fun vs H Q _ => ∃ (n m : Nat), vs = [.int (m : Nat)] ∧ n ≤ 6 ∧ m < 2 ^ n ∧ ∀ H' r, Same H H' → H r = none → H' r = some (.lst (nats (SrCommon.maskMembers n m))) → Q (.ref r) H'
theorem sc_members : FnScope ["mask", "i"] ["mask"] (defScope s_find_members) := ⟨rfl, rfl, rfl, by decide +kernel, rfl, by decide +kernel, by decide +kernel⟩
theorem ok_members (T : Txt K mg a) : Kept P w K mg base CX0 1 a.f_find_members ["mask"] spMembers := by
  obtain ⟨fd, F⟩ := T.r.d_find_members
  refine ⟨fd, F.ok sc_members (fun vs H Q E h => ?_) (fun cdv A outer s H vs Q E hr h => ?_), F.binds fun _ _ _ _ _ _ us hl => match us, hl with | [_], _ => rfl, F.kp⟩
  · obtain ⟨n, m, rfl, _⟩ := h
    rfl
  · refine ⟨_, pss_one (ps_ret (by exact (pe_lc (te := tVar 1) (tt := tTest (tOp rEq (tOp (fun x y H Q => ∃ n : Nat, x = .int (n : Int) ∧ y = .int 1 ∧ Q (.int ((n % 2 : Nat) : Int)) H) (tOp (fun x y H Q => ∃ (i : Int) (k : Nat), x = .int i ∧ y = .int (k : Int) ∧ Q (.int (i / 2 ^ k)) H) (tVar 0) (tVar 1)) (tC (.int 1))) (tC (.int 1)))) (own := [("i", 1)]) (g := gName 1) rfl sc_members.nd
          (pi_range1 (by rfl) (T.z T.r.z_range) (pa_cons (pe_bits (pv 0)) pa_nil)) (blkOk_by (N := ["mask", "i"]) (sc := defScope s_find_members) (by decide +kernel)) (fun _ _ _ _ _ => by exact (pg_name (i := 1) sc_members.nd rfl (Or.inl rfl)))
          (fun _ _ _ _ _ => by exact (pts_one (pt_cmpR op_eq (pe_op op_odd (pe_op op_shrN (pv 0) (pv 1)) pe_int) pe_int (nomark _)))) (fun _ _ _ _ _ => by exact (pv 1))))), ?_⟩
    obtain ⟨n, m, rfl, hn, hm, k⟩ := h
    obtain ⟨eM, hb⟩ := Tw.members_eq hn hm
    refine ⟨_, rfl, _, rfl, ?_⟩
    rw [bits_int]
    refine ⟨_, rfl, by omega, by omega, fun D hD => lc_range (lo := 0) (n := Tw.bits m) (fun i H' => H' = upd H D (.lst (nats ((List.range i).filter fun i => m / 2 ^ i % 2 == 1)))) rfl ?_ ?_⟩
    · rintro i H' hi rfl
      rw [Int.zero_add]
      refine ⟨rfl, _, rfl, _, rfl, _, _, rfl, rfl, ?_⟩
      rw [shr_int]
      refine ⟨_, rfl, rfl, rfl, _, rfl, ?_⟩
      rw [one_bool]
      rw [List.range_succ, List.filter_append]
      cases c : (m / 2 ^ i % 2 == 1) with
      | true =>
        rw [if_pos rfl, List.filter_cons_of_pos (p := fun i => m / 2 ^ i % 2 == 1) c]
        refine ⟨_, rfl, _, upd_same, ?_, ?_⟩
        · rw [nats_len]
          have h2 : ((List.range i).filter fun i => m / 2 ^ i % 2 == 1).length ≤ (List.range i).length := List.length_filter_le ..
          rw [List.length_range] at h2
          exact small1000 (by omega)
        · rw [upd_upd, nats_app]
          rfl
      | false =>
        rw [if_neg Bool.false_ne_true, List.filter_cons_of_neg (p := fun i => m / 2 ^ i % 2 == 1) (by rw [c]; exact Bool.false_ne_true), List.filter_nil, List.append_nil]
    · rintro H' rfl
      rw [eM]
      exact k _ D (same_new hD) hD upd_same
/-! ### find_largest_group(machines, limit); slots: machines, limit, largest, mask, members -/
def spGroup (a : Ad) : Sp := fun vs H Q _ => ∃ (l : Addr) (ws : Sr120.Workshop) (lim : Nat), vs = [.ref l, .int (lim : Nat)] ∧ Fleet a.c_Machine H l ws ∧ ws.length ≤ 6 ∧
  ∀ H' r, Same H H' → H r = none → H' r = some (.lst (nats (Sr120.largestGroup ws lim))) → Q (.ref r) H'
theorem sc_group : FnScope ["machines", "limit", "largest", "mask", "members"] ["machines", "limit"] (defScope s_find_largest_group) := ⟨rfl, rfl, rfl, by decide +kernel, rfl, by decide +kernel, by decide +kernel⟩
theorem ok_group (T : Txt K mg a) : Kept P w K mg base CX0 4 a.f_find_largest_group ["machines", "limit"] (spGroup a) := by
  obtain ⟨fd, F⟩ := T.r.d_find_largest_group
  obtain ⟨f1, F1, b1, k1⟩ := (ok_masks (P := P) (w := w) (base := base) T).ex
  obtain ⟨f2, F2, b2, k2⟩ := (ok_members (P := P) (w := w) (base := base) T).ex
  obtain ⟨f3, F3, b3, k3⟩ := (ok_mincycle (P := P) (w := w) (base := base) T).ex
  refine ⟨fd, F.ok sc_group (fun vs H Q E h => ?_) (fun cdv A outer s H vs Q E hr h => ?_), F.binds fun _ _ _ _ _ _ us hl => match us, hl with | [_, _], _ => rfl, F.kp⟩
  · obtain ⟨l, ws, lim, rfl, _⟩ := h
    rfl
  · refine ⟨_, pss_cons (ps_set (i := 2) sc_group.nd rfl (.inl rfl) (pe_lst pa_nil))
      (pss_cons (ps_for PassesOwn.never rfl (pi_range1 (by rfl) (T.z T.r.z_range) (pa_cons (pe_call F1 (hr.mono (by decide)) rfl (T.g T.r.n_count_masks) k1 b1 .nil pass0 (pa_cons (pv 0) pa_nil)) pa_nil)) (pg_name (i := 3) sc_group.nd rfl (.inl rfl))
        (pss_cons (ps_set (i := 4) sc_group.nd rfl (.inl rfl) (pe_call F2 (hr.mono (by decide)) rfl (T.g T.r.n_find_members) k2 b2 .nil pass0 (pa_cons (pv 3) pa_nil)))
        (pss_one (ps_if (PW.pt (pw_and (pt_cmpR op_gt (pe_callB call_len_seq (by rfl) (T.z T.r.z_len) PySem.boot_len (pa_cons (pv 4) pa_nil)) (pe_callB call_len_seq (by rfl) (T.z T.r.z_len) PySem.boot_len (pa_cons (pv 2) pa_nil)) (nomark _))
            (pw_and1 (pt_cmpR op_le (pe_call F3 hr rfl (T.g T.r.n_find_min_cycle_time) k3 b3 .nil pass0 (pa_cons (pv 0) (pa_cons (pv 4) pa_nil))) (pv 1) (nomark _)))))
          (pss_one (ps_set (i := 2) sc_group.nd rfl (.inl rfl) (pv 4))) pss_nil))))
      (pss_one (ps_ret (pv 2)))), ?_⟩
    obtain ⟨l, ws, lim, rfl, hF, hm, k⟩ := h
    have h64 := Tw.pow_le hm
    refine ⟨(by decide), fun r0 nr0 => ?_⟩
    refine ⟨_, rfl, l, ws, rfl, hF.same (same_new nr0), hm, _, rfl, by (generalize 2 ^ ws.length = N at h64 ⊢; omega), by (generalize 2 ^ ws.length = N at h64 ⊢; omega), for_range (n := 2 ^ ws.length) (fun k σ H' => Same H H' ∧ ∃ r v3 v4, H r = none ∧ H' r = some (.lst (nats (Tw.grps ws lim k))) ∧ σ = [some (.ref l), some (.int (lim : Nat)), some (.ref r), v3, v4])
      ⟨same_new nr0, r0, _, _, nr0, upd_same, rfl⟩ ?_ ?_⟩
    · rintro x σ H' hx ⟨S, r, v3, v4, nr, er, rfl⟩
      rw [Int.zero_add]
      refine ⟨_, rfl, ws.length, x, rfl, hm, hx, fun H1 g S1 ng eg => ?_⟩
      have er1 := S1 _ _ er
      refine ⟨_, rfl, g, _, rfl, .inl (.of eg), _, rfl, r, _, rfl, .inl (.of er1), _, _, rfl, rfl, _, rfl, ?_⟩
      rw [nats_len, nats_len, lt_bool]
      refine ite2 (fun c => ?_) (fun c => ?_)
      · have c := of_decide_eq_true c
        have hl6 := Tw.mask_len ws.length x
        refine ⟨_, rfl, _, rfl, l, g, ws, SrCommon.maskMembers ws.length x, rfl, (hF.same S).same S1, .of eg, Tw.mask_lt, by omega, fun H2 S2 => ⟨_, rfl, _, _, rfl, rfl, _, rfl, ?_⟩⟩
        rw [le_bool]
        refine ite2 (fun c2 => ?_) (fun c2 => ?_)
        · have c2 := of_decide_eq_true c2
          refine ⟨_, rfl, S.trans (S1.trans S2), g, _, _, S.free ng, ?_, rfl⟩
          rw [Tw.grps_succ]
          unfold Tw.grp
          rw [if_pos ⟨c, c2⟩]
          exact S2 _ _ eg
        · have c2 : ¬ (Tw.closed ws (SrCommon.maskMembers ws.length x) ≤ lim) := fun z => c2 (decide_eq_true z)
          refine ⟨S.trans (S1.trans S2), r, _, _, nr, ?_, rfl⟩
          rw [Tw.grps_succ]
          unfold Tw.grp
          rw [if_neg (fun z => c2 z.2)]
          exact S2 _ _ er1
      · have c : ¬ ((Tw.grps ws lim x).length < (SrCommon.maskMembers ws.length x).length) := fun z => c (decide_eq_true z)
        refine ⟨S.trans S1, r, _, _, nr, ?_, rfl⟩
        rw [Tw.grps_succ]
        unfold Tw.grp
        rw [if_neg (fun z => c z.1)]
        exact er1
    · rintro σ H' ⟨S, r, v3, v4, nr, er, rfl⟩
      rw [← Tw.grps_eq] at er
      exact ⟨_, rfl, k H' r S nr er⟩
end
end Tp

set_option maxRecDepth 100000
set_option maxHeartbeats 4000000
namespace Tp
open PySem PySem.Spec PyProof.Rows L2 TwX TwY
theorem mod_int (x y : Nat) : ((x : Nat) : Int) % ((y : Nat) : Int) = ((x % y : Nat) : Int) := (Int.natCast_emod x y).symm
section
variable {P : Program} {w : World} {K : PySem.W.Frag} {mg : Str → Option Value} {base : Heap} {a : Ad}
/-! ### find_arrival(machines, tour, k, start) -/
def spArr (a : Ad) (K : PySem.W.Frag) : Sp := fun vs H Q _ => ∃ (l t : Addr) (ws : Sr120.Workshop) (tour : List Nat) (k s : Nat), vs = [.ref l, .ref t, .int (k : Nat), .int (s : Nat)] ∧ Fleet a.c_Machine H l ws ∧ SqL K H t (nats tour) ∧ (∀ i ∈ tour, i < ws.length) ∧ k < tour.length ∧
  Q (.int ((s + Tw.hop ws tour k : Nat) : Int)) H
theorem sc_arr : FnScope ["machines", "tour", "k", "start"] ["machines", "tour", "k", "start"] (defScope s_find_arrival) := ⟨rfl, rfl, rfl, by decide +kernel, rfl, by decide +kernel, by decide +kernel⟩
theorem ok_arr (T : Txt K mg a) : Kept P w K mg base CX0 3 a.f_find_arrival ["machines", "tour", "k", "start"] (spArr a K) := by
  obtain ⟨fd, F⟩ := T.r.d_find_arrival
  obtain ⟨f1, F1, b1, k1⟩ := (ok_way (P := P) (w := w) (base := base) T).ex
  refine ⟨fd, F.ok sc_arr (fun vs H Q E h => ?_) (fun cdv A outer s H vs Q E hr h => ?_), F.binds fun _ _ _ _ _ _ us hl => match us, hl with | [_, _, _, _], _ => rfl, F.kp⟩
  · obtain ⟨l, t, ws, tour, k, s, rfl, _⟩ := h
    rfl
  · refine ⟨_, pss_one (ps_ret (pe_op op_add (pe_op op_add (pv 3) (pe_fld (pe_ix ix_list (pv 0) (pe_ix ix_list (pv 1) (pv 2) (fun _ _ => rfl)) (fun _ _ => rfl)) rfl))
      (pe_call F1 hr rfl (T.g T.r.n_find_way_on) k1 b1 .nil pass0 (pa_cons (pv 0) (pa_cons (pv 1) (pa_cons (pv 2) pa_nil)))))), ?_⟩
    obtain ⟨l, t, ws, tour, k, s, rfl, hF, hT, hi, hk, q⟩ := h
    obtain ⟨xs, p, dx, e1, e2, e3⟩ := hF.at (hi _ (Tw.getD_mem hk))
    refine ⟨_, rfl, _, rfl, _, rfl, _, rfl, t, _, _, _, rfl, rfl, hT, atI_nat (nats_get hk), l, xs, _, _, rfl, rfl, .of e1, e2, p, _, dx, _, _, rfl, e3, T.r.c_Machine.cl, T.r.a_Machine_service_time, mF_ser _, _, _, rfl, rfl, _, rfl, _, rfl, _, rfl, l, t, ws, tour, k, rfl, hF, hT, hi, hk, _, _, rfl, rfl, ?_⟩
    refine qint (Q := Q) ?_ q
    unfold Tw.hop
    omega
/-! ### find_start_times(machines, tour); slots: machines, tour, starts, time, k -/
def spStarts (a : Ad) (K : PySem.W.Frag) : Sp := fun vs H Q _ => ∃ (l t : Addr) (ws : Sr120.Workshop) (tour : List Nat), vs = [.ref l, .ref t] ∧ Fleet a.c_Machine H l ws ∧ SqL K H t (nats tour) ∧ (∀ i ∈ tour, i < ws.length) ∧ tour.length ≤ 100 ∧
  ∀ H' r, Same H H' → H r = none → H' r = some (.lst (nats (Sr120.startTimes ws tour))) → Q (.ref r) H'
theorem sc_starts : FnScope ["machines", "tour", "starts", "time", "k"] ["machines", "tour"] (defScope s_find_start_times) := ⟨rfl, rfl, rfl, by decide +kernel, rfl, by decide +kernel, by decide +kernel⟩
theorem ok_starts (T : Txt K mg a) : Kept P w K mg base CX0 4 a.f_find_start_times ["machines", "tour"] (spStarts a K) := by
  obtain ⟨fd, F⟩ := T.r.d_find_start_times
  obtain ⟨f1, F1, b1, k1⟩ := (ok_arr (P := P) (w := w) (base := base) T).ex
  refine ⟨fd, F.ok sc_starts (fun vs H Q E h => ?_) (fun cdv A outer s H vs Q E hr h => ?_), F.binds fun _ _ _ _ _ _ us hl => match us, hl with | [_, _], _ => rfl, F.kp⟩
  · obtain ⟨l, t, ws, tour, rfl, _⟩ := h
    rfl
  · refine ⟨_, pss_cons (ps_set (i := 2) sc_starts.nd rfl (.inl rfl) (pe_lst pa_nil))
      (pss_cons (ps_set (i := 3) sc_starts.nd rfl (.inl rfl) pe_int)
      (pss_cons (ps_for PassesOwn.never rfl (pi_range1 (by rfl) (T.z T.r.z_range) (pa_cons (pe_callB call_len_seq (by rfl) (T.z T.r.z_len) PySem.boot_len (pa_cons (pv 1) pa_nil)) pa_nil)) (pg_name (i := 4) sc_starts.nd rfl (.inl rfl))
        (pss_cons (ps_expr (pe_bm PySem.F.plainAttrs_list PySem.F.slot_list_append PySem.F.type_list_append mt_append (pv 2) (pa_cons (pv 3) pa_nil)))
        (pss_one (ps_set (i := 3) sc_starts.nd rfl (.inl rfl) (pe_call F1 hr rfl (T.g T.r.n_find_arrival) k1 b1 .nil pass0 (pa_cons (pv 0) (pa_cons (pv 1) (pa_cons (pv 4) (pa_cons (pv 3) pa_nil)))))))))
      (pss_one (ps_ret (pv 2))))), ?_⟩
    obtain ⟨l, t, ws, tour, rfl, hF, hT, hi, hlen, k⟩ := h
    refine ⟨(by decide), fun r nr => ⟨_, rfl, t, _, rfl, .inl ((same_new nr).seq hT), _, rfl, by rw [nats_len]; omega, by rw [nats_len]; omega,
      for_range (n := (nats tour).length) (fun k σ H' => H' = upd H r (.lst (nats ((List.range k).map (Tw.arr ws tour)))) ∧ ∃ v4, σ = [some (.ref l), some (.ref t), some (.ref r), some (.int (Tw.arr ws tour k : Nat)), v4]) ⟨rfl, _, rfl⟩ ?_ ?_⟩⟩
    · rintro k0 σ H' hk ⟨rfl, v4, rfl⟩
      rw [nats_len] at hk
      rw [Int.zero_add]
      refine ⟨_, rfl, .inl ⟨rfl, _, .of upd_same⟩, _, rfl, r, _, _, rfl, rfl, upd_same, ?_, ?_⟩
      · rw [nats_len, List.length_map, List.length_range]
        exact small1000 (by omega)
      · rw [upd_upd]
        refine ⟨_, rfl, _, rfl, _, rfl, _, rfl, l, t, ws, tour, k0, _, rfl, hF.same (same_new nr), (same_new nr).seq hT, hi, hk, ?_, some (.int ((k0 : Nat) : Int)), ?_⟩
        · rw [List.range_succ, List.map_append, nats_app]
          rfl
        · have key : Tw.arr ws tour k0 + Tw.hop ws tour k0 = Tw.arr ws tour (k0 + 1) := by
            unfold Tw.hop
            show _ = Tw.arr ws tour k0 + _ + _
            omega
          exact congrArg (fun z => [some (V.ref l), some (V.ref t), some (V.ref r), some (V.int ((z : Nat) : Int)), some (V.int ((k0 : Nat) : Int))]) key
    · rintro σ H' ⟨rfl, v4, rfl⟩
      rw [nats_len, ← Tw.starts_eq]
      exact ⟨_, rfl, k _ r (same_new nr) nr upd_same⟩
/-! ### is_feasible(machines, cycle, tour, starts); slots: machines, cycle, tour, starts, starts_again, next_starts, k, start -/
def spFeas (a : Ad) (K : PySem.W.Frag) : Sp := fun vs H Q _ => ∃ (l t u : Addr) (ws : Sr120.Workshop) (tour starts : List Nat) (c : Nat), vs = [.ref l, .int (c : Nat), .ref t, .ref u] ∧ Fleet a.c_Machine H l ws ∧ SqL K H t (nats tour) ∧ SqL K H u (nats starts) ∧ (∀ i ∈ tour, i < ws.length) ∧ tour.length ≤ 100 ∧ starts.length = tour.length ∧
  ∀ H', Same H H' → Q (.bl (Sr120.isFeasible ws tour starts c)) H'
theorem sc_feas : FnScope ["machines", "cycle", "tour", "starts", "starts_again", "next_starts", "k", "start"] ["machines", "cycle", "tour", "starts"] (defScope s_is_feasible) := ⟨rfl, rfl, rfl, by decide +kernel, rfl, by decide +kernel, by decide +kernel⟩
theorem ok_feas (T : Txt K mg a) : Kept P w K mg base CX0 4 a.f_is_feasible ["machines", "cycle", "tour", "starts"] (spFeas a K) := by
  obtain ⟨fd, F⟩ := T.r.d_is_feasible
  obtain ⟨f1, F1, b1, k1⟩ := (ok_arr (P := P) (w := w) (base := base) T).ex
  obtain ⟨f2, F2, b2, k2⟩ := (ok_longest (P := P) (w := w) (base := base) T).ex
  refine ⟨fd, F.ok sc_feas (fun vs H Q E h => ?_) (fun cdv A outer s H vs Q E hr h => ?_), F.binds fun _ _ _ _ _ _ us hl => match us, hl with | [_, _, _, _], _ => rfl, F.kp⟩
  · obtain ⟨l, t, u, ws, tour, starts, c, rfl, _⟩ := h
    rfl
  · refine ⟨_, pss_cons (ps_if (pt_cmpR op_gt (pe_call F2 (hr.mono (by decide)) rfl (T.g T.r.n_find_longest_own_time) k2 b2 .nil pass0 (pa_cons (pv 0) (pa_cons (pv 2) pa_nil))) (pv 1) (nomark _)) (pss_one (ps_ret pe_bl)) pss_nil)
      (pss_cons (ps_setLc (i := 4) (te := tOp (rI0 fun i j => .int (i + j)) (tVar 7) (tVar 1)) (own := [("start", 7)]) (g := gName 7) (tt := tYes) rfl sc_feas.nd rfl rfl (sw_true rfl rfl rfl (by decide +kernel)) (pi_list (pv 3))
        (blkOk_by (N := ["machines", "cycle", "tour", "starts", "starts_again", "next_starts", "k", "start"]) (sc := defScope s_is_feasible) (by decide +kernel)) (fun _ _ _ _ _ => by exact (pg_name (i := 7) sc_feas.nd rfl (Or.inl rfl))) (fun _ _ _ _ _ => pts_nil) (fun _ _ _ _ _ => by exact (pe_op op_add (pv 7) (pv 1))))
      (pss_cons (ps_set (i := 5) sc_feas.nd rfl (.inl rfl) (pe_op op_cat (pe_slice sl_list (pv 3) (po_some pe_int) po_none) (pe_slice sl_list (pv 4) po_none (po_some pe_int))))
      (pss_cons (ps_for PassesOwn.never rfl (pi_range1 (by rfl) (T.z T.r.z_range) (pa_cons (pe_callB call_len_seq (by rfl) (T.z T.r.z_len) PySem.boot_len (pa_cons (pv 2) pa_nil)) pa_nil)) (pg_name (i := 6) sc_feas.nd rfl (.inl rfl))
        (pss_one (ps_if (pt_cmpR op_gt (pe_call F1 hr rfl (T.g T.r.n_find_arrival) k1 b1 .nil pass0 (pa_cons (pv 0) (pa_cons (pv 2) (pa_cons (pv 6) (pa_cons (pe_ix ix_list (pv 3) (pv 6) (fun _ _ => rfl)) pa_nil))))) (pe_ix ix_list (pv 5) (pv 6) (fun _ _ => rfl)) (nomark _))
          (pss_one (ps_ret pe_bl)) pss_nil)))
      (pss_one (ps_ret pe_bl))))), ?_⟩
    obtain ⟨l, t, u, ws, tour, starts, c, rfl, hF, hT, hU, hi, hlen, hs, k⟩ := h
    refine ⟨_, rfl, _, rfl, l, t, ws, tour, rfl, hF, hT, hi, hlen, fun H1 S1 => ⟨_, rfl, _, _, rfl, rfl, _, rfl, ?_⟩⟩
    rw [lt_bool]
    refine ite2 (fun q => ?_) (fun q => ?_)
    · have q := of_decide_eq_true q
      have k := k H1 S1
      rw [Tw.feas_no1 hs q] at k
      exact k
    · have q : Sr120.longestMachineCycle ws tour ≤ c := Nat.le_of_not_lt fun z => q (decide_eq_true z)
      have hU1 := S1.seq hU
      refine ⟨_, rfl, u, rfl, ⟨_, hU1⟩, fun D nD => lc_map (fun j => ((j : Nat) : Int) + ((c : Nat) : Int)) nD hU1 (by omega) (fun _ => rfl) (fun j hj H' S Q' q => ⟨_, rfl, _, rfl, _, _, rfl, rfl, q⟩) ?_⟩
      have eD : (starts.map fun j => ((j : Nat) : Int) + ((c : Nat) : Int)).map V.int = nats (starts.map fun x => x + c) := by
        unfold nats
        rw [List.map_map, List.map_map]
        rfl
      rw [eD]
      have S2 := S1.trans (same_new (o := HO.lst (nats (starts.map fun x => x + c))) nD)
      refine ⟨_, rfl, _, rfl, u, _, rfl, S2.seq hU, fun p1 n1 => ?_⟩
      rw [show cutV (nats starts) (some 1) none = nats (starts.drop 1) from cut_drop starts 1]
      have S3 := S2.trans (same_new (o := HO.lst (nats (starts.drop 1))) n1)
      refine ⟨_, rfl, _, rfl, D, _, rfl, .of (same_new n1 _ _ upd_same), fun p2 n2 => ?_⟩
      rw [show cutV (nats (starts.map fun x => x + c)) none (some 1) = nats ((starts.map fun x => x + c).take 1) from cut_take _ 1]
      have S4 := S3.trans (same_new (o := HO.lst (nats ((starts.map fun x => x + c).take 1))) n2)
      have ll : (nats (starts.drop 1)).length + (nats ((starts.map fun x => x + c).take 1)).length ≤ 101 := by
        rw [nats_len, nats_len, List.length_drop, List.length_take]
        omega
      refine ⟨p1, p2, _, _, rfl, rfl, same_new n2 _ _ upd_same, upd_same, Nat.le_trans ll (by decide), fun p3 n3 => ?_⟩
      rw [← nats_app]
      have S5 := S4.trans (same_new (o := HO.lst (nats (starts.drop 1 ++ (starts.map fun x => x + c).take 1))) n3)
      refine ⟨_, rfl, t, _, rfl, .inl (S5.seq hT), _, rfl, by rw [nats_len]; omega, by rw [nats_len]; omega, for_range (n := (nats tour).length) (fun k σ H' => H' = upd (upd (upd (upd H1 D (.lst (nats (starts.map fun x => x + c)))) p1 (.lst (nats (starts.drop 1)))) p2 (.lst (nats ((starts.map fun x => x + c).take 1)))) p3 (.lst (nats (starts.drop 1 ++ (starts.map fun x => x + c).take 1))) ∧
        (∃ v6, σ = [some (.ref l), some (.int (c : Nat)), some (.ref t), some (.ref u), some (.ref D), some (.ref p3), v6, none]) ∧ ∀ j, j < k → starts.getD j 0 + Tw.hop ws tour j ≤ Tw.nextOf starts c j) ⟨rfl, ⟨_, rfl⟩, fun j hj => absurd hj (Nat.not_lt_zero _)⟩ ?_ ?_⟩
      · rintro k0 σ H' hk ⟨rfl, ⟨v6, rfl⟩, hj⟩
        rw [nats_len] at hk
        rw [Int.zero_add]
        obtain ⟨g1, g2⟩ := Tw.nexts_at (s := starts) (c := c) (k := k0) (by omega)
        have g3 : atI (nats (starts.drop 1 ++ (starts.map fun x => x + c).take 1)) ((k0 : Nat) : Int) = some (.int ((Tw.nextOf starts c k0 : Nat) : Int)) := by
          rw [← g2]
          exact atI_nat (nats_get g1)
        refine ⟨_, rfl, _, rfl, _, rfl, _, rfl, _, rfl, u, _, _, _, rfl, rfl, S5.seq hU, atI_nat (nats_get (by omega)), l, t, ws, tour, k0, _, rfl, hF.same S5, S5.seq hT, hi, hk, _, rfl, _, rfl, p3, _, _, _, rfl, rfl, .of upd_same, g3, _, _, rfl, rfl, _, rfl, ?_⟩
        rw [lt_bool]
        refine ite2 (fun q2 => ?_) (fun q2 => ?_)
        · have q2 := of_decide_eq_true q2
          have k := k _ S5
          rw [Tw.feas_no2 hs hk q2] at k
          exact k
        · have q2 : starts.getD k0 0 + Tw.hop ws tour k0 ≤ Tw.nextOf starts c k0 := Nat.le_of_not_lt fun z => q2 (decide_eq_true z)
          refine ⟨rfl, ⟨_, rfl⟩, fun j hj2 => ?_⟩
          by_cases e : j = k0
          · rw [e]
            exact q2
          · exact hj j (by omega)
      · rintro σ H' ⟨rfl, ⟨v6, rfl⟩, hj⟩
        rw [nats_len] at hj
        have k := k _ S5
        rw [Tw.feas_yes hs q hj] at k
        exact k
/-! ### find_greatest_divisor(one, other); slots: one, other, rest -/
def spGcd : Sp := fun vs H Q _ => ∃ (n m : Nat), vs = [.int (n : Nat), .int (m : Nat)] ∧ Q (.int (Nat.gcd n m : Nat)) H
theorem sc_gcd : FnScope ["one", "other", "rest"] ["one", "other"] (defScope s_find_greatest_divisor) := ⟨rfl, rfl, rfl, by decide +kernel, rfl, by decide +kernel, by decide +kernel⟩
theorem ok_gcd (T : Txt K mg a) : Kept P w K mg base CX0 1 a.f_find_greatest_divisor ["one", "other"] spGcd := by
  obtain ⟨fd, F⟩ := T.r.d_find_greatest_divisor
  refine ⟨fd, F.ok sc_gcd (fun vs H Q E h => ?_) (fun cdv A outer s H vs Q E hr h => ?_), F.binds fun _ _ _ _ _ _ us hl => match us, hl with | [_, _], _ => rfl, F.kp⟩
  · obtain ⟨n, m, rfl, _⟩ := h
    rfl
  · refine ⟨_, pss_cons (ps_while PassesOwn.never (pt_cmpR op_gt (pv 1) pe_int (nomark _))
        (pss_cons (ps_set (i := 2) sc_gcd.nd rfl (.inl rfl) (pe_op op_mod (pv 0) (pv 1)))
        (pss_cons (ps_set (i := 0) sc_gcd.nd rfl (.inl rfl) (pv 1))
        (pss_one (ps_set (i := 1) sc_gcd.nd rfl (.inl rfl) (pv 2))))))
      (pss_one (ps_ret (pv 0))), ?_⟩
    obtain ⟨n, m, rfl, k⟩ := h
    refine ⟨fun z σ H' => H' = H ∧ ∃ x y v2, σ = [some (.int (x : Nat)), some (.int (y : Nat)), v2] ∧ Nat.gcd x y = Nat.gcd n m ∧ z = y, ⟨m, rfl, n, m, _, rfl, rfl, rfl⟩, ?_⟩
    rintro z σ H' ⟨rfl, x, y, v2, rfl, hg, rfl⟩
    refine ⟨_, rfl, _, _, rfl, rfl, _, rfl, ite2 (fun c => ?_) (fun c => ?_)⟩
    · have c := of_decide_eq_true c
      have c2 : 0 < z := by omega
      refine ⟨_, fun σ' H' h => ⟨x % z, Nat.mod_lt _ c2, h⟩, _, rfl, _, rfl, _, _, rfl, rfl, c, ?_⟩
      refine ⟨_, rfl, _, rfl, rfl, z, x % z, some (V.int ((x % z : Nat) : Int)), congrArg (fun q => [some (V.int ((z : Nat) : Int)), some (V.int q), some (V.int q)]) (mod_int x z), ?_, rfl⟩
      rw [← Tw.gcd_turn]
      exact hg
    · have c : ¬ ((0 : Int) < ((z : Nat) : Int)) := fun q => c (decide_eq_true q)
      have c2 : z = 0 := by omega
      rw [c2, Nat.gcd_zero_right] at hg
      rw [← hg] at k
      exact ⟨_, rfl, k⟩
/-! ### find_lowest_terms(numerator, denominator) -/
def spLow : Sp := fun vs H Q _ => ∃ (n m : Nat), vs = [.int (n : Nat), .int (m : Nat)] ∧ 1 ≤ m ∧ m ≤ 100000 ∧ ∀ H' r, Same H H' → H r = none → H' r = some (.lst (intv (SrFraction.encode (SrFraction.mk (n : Int) m)))) → Q (.ref r) H'
theorem sc_low : FnScope ["numerator", "denominator", "divisor"] ["numerator", "denominator"] (defScope s_find_lowest_terms) := ⟨rfl, rfl, rfl, by decide +kernel, rfl, by decide +kernel, by decide +kernel⟩
theorem ok_low (T : Txt K mg a) : Kept P w K mg base CX0 2 a.f_find_lowest_terms ["numerator", "denominator"] spLow := by
  obtain ⟨fd, F⟩ := T.r.d_find_lowest_terms
  obtain ⟨f1, F1, b1, k1⟩ := (ok_gcd (P := P) (w := w) (base := base) T).ex
  refine ⟨fd, F.ok sc_low (fun vs H Q E h => ?_) (fun cdv A outer s H vs Q E hr h => ?_), F.binds fun _ _ _ _ _ _ us hl => match us, hl with | [_, _], _ => rfl, F.kp⟩
  · obtain ⟨n, m, rfl, _⟩ := h
    rfl
  · refine ⟨_, pss_cons (ps_set (i := 2) sc_low.nd rfl (.inl rfl) (pe_call F1 hr rfl (T.g T.r.n_find_greatest_divisor) k1 b1 .nil pass0 (pa_cons (pv 0) (pa_cons (pv 1) pa_nil))))
      (pss_one (ps_ret (pe_lst (pa_cons (pe_op op_fdivNN (pv 0) (pv 2)) (pa_cons (pe_op op_fdivNN (pv 1) (pv 2)) pa_nil))))), ?_⟩
    obtain ⟨n, m, rfl, h1, h2, k⟩ := h
    have g1 : 1 ≤ Nat.gcd n m := Nat.gcd_pos_of_pos_right _ (by omega)
    have g2 : Nat.gcd n m ≤ m := Nat.le_of_dvd (by omega) (Nat.gcd_dvd_right n m)
    refine ⟨_, rfl, _, rfl, n, m, rfl, _, rfl, _, rfl, _, _, rfl, rfl, ⟨g1, by omega⟩, _, rfl, _, rfl, _, _, rfl, rfl, ⟨g1, by omega⟩, (by show 2 ≤ sizeLine; decide), fun r nr => k _ r (same_new nr) nr (upd_same.trans ?_)⟩
    rw [Tw.frac h1]
    rfl
end
end Tp

set_option maxRecDepth 100000
set_option maxHeartbeats 4000000
namespace Tw
open Sr120 SrCommon
theorem isLength_iff {x : Int} : isLength x = true ↔ 0 ≤ x ∧ x ≤ 99 := by
  unfold isLength inRange
  rw [Bool.and_eq_true, decide_eq_true_eq, decide_eq_true_eq]
theorem isService_iff {x : Int} : isServiceTime x = true ↔ 1 ≤ x ∧ x ≤ 99 := by
  unfold isServiceTime inRange
  rw [Bool.and_eq_true, decide_eq_true_eq, decide_eq_true_eq]
theorem false_of {b : Bool} {p : Prop} (h : b = true ↔ p) (n : ¬ p) : b = false := by
  rw [Bool.eq_false_iff]
  exact fun z => n (h.mp z)
theorem erase_map {α β : Type} (f : α → β) : ∀ (l : List α) (k : Nat), (l.map f).eraseIdx k = (l.eraseIdx k).map f
  | [], _ => rfl
  | _ :: _, 0 => rfl
  | a :: r, k + 1 => congrArg (f a :: ·) (erase_map f r k)
theorem at_set {w : Workshop} {i j : Nat} {m : Machine} (h : i < w.length) : machineAt (w.set i m) j = if i = j then m else machineAt w j := by
  unfold machineAt
  rw [List.getD_eq_getElem?_getD, List.getD_eq_getElem?_getD, List.getElem?_set]
  by_cases e : i = j
  · rw [if_pos e, if_pos e, if_pos h]
    rfl
  · rw [if_neg e, if_neg e]
theorem at_erase {w : Workshop} {i j : Nat} : machineAt (w.eraseIdx i) j = if j < i then machineAt w j else machineAt w (j + 1) := by
  unfold machineAt
  rw [List.getD_eq_getElem?_getD, List.getD_eq_getElem?_getD, List.getD_eq_getElem?_getD, List.getElem?_eraseIdx]
  split <;> rfl
theorem at_app {w : Workshop} {j : Nat} {m : Machine} : machineAt (w ++ [m]) j = if j < w.length then machineAt w j else if j = w.length then m else ⟨0, 0, 0⟩ := by
  unfold machineAt
  rw [List.getD_eq_getElem?_getD, List.getD_eq_getElem?_getD]
  by_cases h : j < w.length
  · rw [if_pos h, List.getElem?_append_left h]
  · rw [if_neg h, List.getElem?_append_right (by omega)]
    by_cases e : j = w.length
    · rw [if_pos e, e, Nat.sub_self]
      rfl
    · rw [if_neg e]
      have : j - w.length ≠ 0 := by omega
      obtain ⟨k, hk⟩ := Nat.exists_eq_succ_of_ne_zero this
      rw [hk]
      rfl
end Tw
namespace Tp
open PySem PySem.Spec PyProof.Rows L2 TwX TwY
/-- what a change of the wall leaves -/
structure Wfrm (l : Addr) (H H' : Hp) : Prop where
  stay : Frm (fun b o => b = l ∨ ∃ C dx m, o = .ins C dx (mF m)) H H'
  free : ∀ b, H' b = none → H b = none
theorem Wfrm.of {l : Addr} {H H' : Hp} (s : Same H H') : Wfrm l H H' := ⟨fun b o e _ => s b o e, fun _ => s.free⟩
theorem Wfrm.trans {l : Addr} {H H1 H2 : Hp} (h1 : Wfrm l H H1) (h2 : Wfrm l H1 H2) : Wfrm l H H2 := ⟨fun b o e n => h2.stay b o (h1.stay b o e n) n, fun b h => h1.free b (h2.free b h)⟩
theorem free_upd {H H1 : Hp} {p : Addr} {o : HO} (h : ∀ b, H1 b = none → H b = none) : ∀ b, upd H1 p o b = none → H b = none := fun b e => by
  by_cases z : b = p
  · subst z
    rw [upd_same] at e
    cases e
  · rw [upd_ne z] at e
    exact h b e
theorem not_mach {C : Addr} {dx : Addr} {l : Addr} : ¬ ∃ C2 dx2 m, HO.ins C dx (wlF l) = .ins C2 dx2 (mF m) := fun ⟨_, _, _, z⟩ => by
  cases z
theorem seq_at {n : Nat} {i : Nat} (h : i < n) : seqIndex? ((i : Nat) : Int) n = some i := by
  unfold seqIndex?
  have e : (if ((i : Nat) : Int) < 0 then ((i : Nat) : Int) + (n : Int) else ((i : Nat) : Int)) = (i : Nat) := if_neg (by omega)
  dsimp only
  rw [e, if_pos (by rw [Bool.and_eq_true, decide_eq_true_eq, decide_eq_true_eq]; omega), Int.toNat_natCast]
/-- a machine's fields changed -/
theorem FleetD.set {C : Addr} {H : Hp} {l : Addr} {w : Sr120.Workshop} {ps : List Addr} (h : FleetD C H l w ps) {i : Nat} {p dx : Addr} {m : Sr120.Machine} (hi : ps[i]? = some p) (hp : H p = some (.ins C dx (mF (Sr120.machineAt w i)))) :
    FleetD C (upd H p (.ins C dx (mF m))) l (w.set i m) ps := by
  have hlt : i < w.length := by
    rw [← h.len]
    exact (List.getElem?_eq_some_iff.mp hi).1
  refine ⟨?_, by rw [List.length_set]; exact h.len, h.nd, fun j q hq => ?_⟩
  · rw [upd_ne (ne_kind h.lst hp (fun z => by cases z))]
    exact h.lst
  · rw [Tw.at_set hlt]
    by_cases e : i = j
    · subst e
      rw [hi] at hq
      cases hq
      rw [if_pos rfl]
      exact ⟨dx, upd_same⟩
    · rw [if_neg e]
      obtain ⟨dx2, e2⟩ := h.mach j q hq
      refine ⟨dx2, ?_⟩
      rw [upd_ne ?_]
      · exact e2
      · intro z
        subst z
        obtain ⟨h1, g1⟩ := List.getElem?_eq_some_iff.mp hi
        obtain ⟨h2, g2⟩ := List.getElem?_eq_some_iff.mp hq
        have nd := h.nd
        rw [List.nodup_iff_pairwise_ne, List.pairwise_iff_getElem] at nd
        rcases Nat.lt_or_gt_of_ne e with c | c
        · exact nd i j h1 h2 c (g1.trans g2.symm)
        · exact nd j i h2 h1 c (g2.trans g1.symm)
theorem FleetD.erase {C : Addr} {H : Hp} {l : Addr} {w : Sr120.Workshop} {ps : List Addr} (h : FleetD C H l w ps) (i : Nat) :
    FleetD C (upd H l (.lst ((ps.map V.ref).eraseIdx i))) l (w.eraseIdx i) (ps.eraseIdx i) := by
  refine ⟨by rw [upd_same, Tw.erase_map], ?_, h.nd.eraseIdx i, fun j q hq => ?_⟩
  · rw [List.length_eraseIdx, List.length_eraseIdx, h.len]
  · rw [List.getElem?_eraseIdx] at hq
    rw [Tw.at_erase]
    have go : ∀ k, ps[k]? = some q → MachAt C (upd H l (.lst ((ps.map V.ref).eraseIdx i))) q (Sr120.machineAt w k) := fun k hk => by
      obtain ⟨dx2, e2⟩ := h.mach k q hk
      refine ⟨dx2, ?_⟩
      rw [upd_ne (ne_kind e2 h.lst (fun z => by cases z))]
      exact e2
    split at hq
    · rename_i c
      rw [if_pos c]
      exact go j hq
    · rename_i c
      rw [if_neg c]
      exact go (j + 1) hq
/-- one more machine -/
theorem FleetD.push {C : Addr} {H H1 : Hp} {l : Addr} {w : Sr120.Workshop} {ps : List Addr} (h : FleetD C H l w ps) {x dx : Addr} {m : Sr120.Machine} (s : Same H H1) (nx : H x = none) (hx : H1 x = some (.ins C dx (mF m))) :
    FleetD C (upd H1 l (.lst (ps.map V.ref ++ [V.ref x]))) l (w ++ [m]) (ps ++ [x]) := by
  have far : ∀ p ∈ ps, p ≠ x := fun p hp e => by
    obtain ⟨i, hi⟩ := List.getElem?_of_mem hp
    obtain ⟨dx2, e2⟩ := h.mach i p hi
    rw [e, nx] at e2
    cases e2
  have h2 := h.same s
  refine ⟨by rw [upd_same, List.map_append]; rfl, by rw [List.length_append, List.length_append, h.len]; rfl, ?_, fun j q hq => ?_⟩
  · rw [List.nodup_append]
    refine ⟨h.nd, by simp, fun p hp q hq => ?_⟩
    rw [List.mem_singleton.mp hq]
    exact far p hp
  · rw [Tw.at_app]
    by_cases c : j < ps.length
    · rw [List.getElem?_append_left c] at hq
      rw [if_pos (by rw [← h.len]; exact c)]
      obtain ⟨dx2, e2⟩ := h2.mach j q hq
      refine ⟨dx2, ?_⟩
      rw [upd_ne (ne_kind e2 h2.lst (fun z => by cases z))]
      exact e2
    · rw [List.getElem?_append_right (by omega)] at hq
      have hj := (List.getElem?_eq_some_iff.mp hq).1
      have hj : j - ps.length < 1 := hj
      have e0 : j - ps.length = 0 := by omega
      rw [e0] at hq
      cases hq
      rw [if_neg (by rw [← h.len]; omega), if_pos (by rw [← h.len]; omega)]
      refine ⟨dx, ?_⟩
      rw [upd_ne (ne_kind hx h2.lst (fun z => by cases z))]
      exact hx
theorem mF_put_pos (m : Sr120.Machine) (x : Nat) : putF ("position" : Str) (.int (x : Nat)) (mF m) = mF { m with position := x } := put_here
theorem mF_put_run (m : Sr120.Machine) (x : Nat) : putF ("run_time" : Str) (.int (x : Nat)) (mF m) = mF { m with runTime := x } := (put_past (by decide +kernel)).trans (congrArg _ put_here)
theorem mF_put_ser (m : Sr120.Machine) (x : Nat) : putF ("service_time" : Str) (.int (x : Nat)) (mF m) = mF { m with serviceTime := x } := (put_past (by decide +kernel)).trans (congrArg _ ((put_past (by decide +kernel)).trans (congrArg _ put_here)))
section
variable {P : Program} {w : World} {K : PySem.W.Frag} {mg : Str → Option Value} {base : Heap} {a : Ad}
/-! ### set_position(self, i, position) and its like -/
def spSet (a : Ad) (ok : Int → Bool) (get : Sr120.Machine → Nat) (put : Sr120.Machine → Nat → Sr120.Machine) : Sp := fun vs H Q E => ∃ (wa l : Addr) (ws : Sr120.Workshop) (ps : List Addr) (i x : Int), vs = [.ref wa, .int i, .int x] ∧ WallAt a H wa l ws ps ∧
  (Sr120.isMachine ws i = false → Bad a.c_NoSuchMachine (-2) H E) ∧ (Sr120.isMachine ws i = true → ok x = false → Bad a.c_BadParameter (-22) H E) ∧
  (Sr120.isMachine ws i = true → ok x = true → ∀ H', Wfrm l H H' → WallAt a H' wa l (ws.set i.toNat (put (Sr120.machineAt ws i.toNat) x.toNat)) ps → Q (.int (get (Sr120.machineAt ws i.toNat) : Nat)) H')
theorem sc_spos : FnScope ["self", "i", "position", "machine", "old_position"] ["self", "i", "position"] (defScope s_Wall_set_position) := ⟨rfl, rfl, rfl, by decide +kernel, rfl, by decide +kernel, by decide +kernel⟩
theorem ok_spos (T : Txt K mg a) : Kept P w K mg base (L2.CX P w) 6 a.f_Wall_set_position ["self", "i", "position"] (spSet a Sr120.isLength (fun m => m.position) (fun m x => { m with position := x })) := by
  obtain ⟨fd, F⟩ := T.r.d_Wall_set_position
  obtain ⟨f1, F1, b1, k1⟩ := (ok_cpos (P := P) (w := w) (base := base) T).ex
  obtain ⟨f2, F2, b2, k2⟩ := (ok_chk (P := P) (w := w) (base := base) T).ex
  refine ⟨fd, F.okX sc_spos (fun vs H Q E h => ?_) (fun cdv A outer s H vs Q E hr h => ?_), F.binds fun _ _ _ _ _ _ us hl => match us, hl with | [_, _, _], _ => rfl, F.kp⟩
  · obtain ⟨wa, l, ws, ps, i, x, rfl, _⟩ := h
    rfl
  · refine ⟨_, pss_cons (ps_expr (pe_meth (pv 0) T.r.c_Wall.cl (at_chk T) F2 (hr.mono (by decide)) b2 .nil (passes_call (takes_of rfl rfl rfl rfl) (fun _ _ _ _ z => z)) (pa_cons (pv 1) pa_nil)))
      (pss_cons (ps_expr (pe_call F1 hr rfl (T.g T.r.n_check_position) k1 b1 .nil (passes_call (takes_of rfl rfl rfl rfl) (fun _ _ _ _ z => z)) (pa_cons (pv 2) pa_nil)))
      (pss_cons (ps_set (i := 3) sc_spos.nd rfl (.inl rfl) (pe_ix ix_list (pe_fld (pv 0) rfl) (pv 1) (fun _ _ => rfl)))
      (pss_cons (ps_set (i := 4) sc_spos.nd rfl (.inl rfl) (pe_fld (pv 3) rfl))
      (pss_cons (ps_fld (pv 3) (pv 2) rfl)
      (pss_one (ps_ret (pv 4))))))), ?_⟩
    obtain ⟨wa, l, ws, ps, i, x, rfl, hw, k1, k2, k3⟩ := h
    obtain ⟨dw, hd⟩ := hw.obj
    refine ⟨_, rfl, wa, dw, _, rfl, hd, wlF_no (by decide +kernel), _, rfl, wa, l, ws, ps, i, rfl, hw, fun c => ?_, k1⟩
    obtain ⟨i0, i1⟩ := Tw.isMachine_iff.mp c
    obtain ⟨n, rfl⟩ := Int.eq_ofNat_of_zero_le i0
    have hn : n < ws.length := by omega
    have hp : ps[n]? = some (ps[n]'(by rw [hw.fl.len]; exact hn)) := List.getElem?_eq_getElem (by rw [hw.fl.len]; exact hn)
    obtain ⟨dx, e⟩ := hw.fl.mach n _ hp
    have hv : atI (ps.map V.ref) ((n : Nat) : Int) = some (V.ref (ps[n]'(by rw [hw.fl.len]; exact hn))) := atI_nat (by rw [List.getElem?_map, hp]; rfl)
    refine ⟨_, rfl, x, rfl, fun c2 => ?_, fun c2 => k2 c (Tw.false_of Tw.isLength_iff c2)⟩
    obtain ⟨y, rfl⟩ := Int.eq_ofNat_of_zero_le (show 0 ≤ x by omega)
    refine ⟨_, rfl, wa, _, dw, _, _, rfl, hd, T.r.c_Wall.cl, T.r.a_Wall_machines, wlF_get, _, rfl, l, _, _, _, rfl, rfl, .of hw.fl.lst, hv,
      _, rfl, _, _, dx, _, _, rfl, e, T.r.c_Machine.cl, T.r.a_Machine_position, mF_pos _, _, rfl, _, rfl, _, _, dx, _, rfl, e, T.r.c_Machine.cl, T.r.a_Machine_position, (by show 3 < 1000; decide), _, rfl, ?_⟩
    rw [mF_put_pos]
    refine k3 c (Tw.isLength_iff.mpr c2) _ ⟨fun b o eb nb => ?_, free_upd fun _ z => z⟩ ⟨⟨dw, ?_⟩, hw.fl.set hp e, ?_, ?_⟩
    · rw [upd_ne]
      · exact eb
      · intro z
        subst z
        rw [e] at eb
        cases eb
        exact nb (.inr ⟨_, _, _, rfl⟩)
    · rw [upd_ne (ne_kind hd e (fun z => not_mach ⟨_, _, _, z⟩))]
      exact hd
    · rw [List.length_set]
      exact hw.most
    · have q := hw.fit.at hn
      exact hw.fit.set _ ⟨(show Int.toNat ((y : Nat) : Int) ≤ 99 by omega), q.2.1, q.2.2.1, q.2.2.2⟩
theorem at_spos (T : Txt K mg a) : Meth K a.c_Wall "set_position" a.f_Wall_set_position := by
  obtain ⟨fd, F⟩ := T.r.d_Wall_set_position
  exact meth_mk T.r.m_Wall_set_position T.r.y_Wall_set_position F
theorem sc_srun : FnScope ["self", "i", "run_time", "machine", "old_run_time"] ["self", "i", "run_time"] (defScope s_Wall_set_run_time) := ⟨rfl, rfl, rfl, by decide +kernel, rfl, by decide +kernel, by decide +kernel⟩
theorem ok_srun (T : Txt K mg a) : Kept P w K mg base (L2.CX P w) 6 a.f_Wall_set_run_time ["self", "i", "run_time"] (spSet a Sr120.isLength (fun m => m.runTime) (fun m x => { m with runTime := x })) := by
  obtain ⟨fd, F⟩ := T.r.d_Wall_set_run_time
  obtain ⟨f1, F1, b1, k1⟩ := (ok_crun (P := P) (w := w) (base := base) T).ex
  obtain ⟨f2, F2, b2, k2⟩ := (ok_chk (P := P) (w := w) (base := base) T).ex
  refine ⟨fd, F.okX sc_srun (fun vs H Q E h => ?_) (fun cdv A outer s H vs Q E hr h => ?_), F.binds fun _ _ _ _ _ _ us hl => match us, hl with | [_, _, _], _ => rfl, F.kp⟩
  · obtain ⟨wa, l, ws, ps, i, x, rfl, _⟩ := h
    rfl
  · refine ⟨_, pss_cons (ps_expr (pe_meth (pv 0) T.r.c_Wall.cl (at_chk T) F2 (hr.mono (by decide)) b2 .nil (passes_call (takes_of rfl rfl rfl rfl) (fun _ _ _ _ z => z)) (pa_cons (pv 1) pa_nil)))
      (pss_cons (ps_expr (pe_call F1 hr rfl (T.g T.r.n_check_run_time) k1 b1 .nil (passes_call (takes_of rfl rfl rfl rfl) (fun _ _ _ _ z => z)) (pa_cons (pv 2) pa_nil)))
      (pss_cons (ps_set (i := 3) sc_srun.nd rfl (.inl rfl) (pe_ix ix_list (pe_fld (pv 0) rfl) (pv 1) (fun _ _ => rfl)))
      (pss_cons (ps_set (i := 4) sc_srun.nd rfl (.inl rfl) (pe_fld (pv 3) rfl))
      (pss_cons (ps_fld (pv 3) (pv 2) rfl)
      (pss_one (ps_ret (pv 4))))))), ?_⟩
    obtain ⟨wa, l, ws, ps, i, x, rfl, hw, k1, k2, k3⟩ := h
    obtain ⟨dw, hd⟩ := hw.obj
    refine ⟨_, rfl, wa, dw, _, rfl, hd, wlF_no (by decide +kernel), _, rfl, wa, l, ws, ps, i, rfl, hw, fun c => ?_, k1⟩
    obtain ⟨i0, i1⟩ := Tw.isMachine_iff.mp c
    obtain ⟨n, rfl⟩ := Int.eq_ofNat_of_zero_le i0
    have hn : n < ws.length := by omega
    have hp : ps[n]? = some (ps[n]'(by rw [hw.fl.len]; exact hn)) := List.getElem?_eq_getElem (by rw [hw.fl.len]; exact hn)
    obtain ⟨dx, e⟩ := hw.fl.mach n _ hp
    have hv : atI (ps.map V.ref) ((n : Nat) : Int) = some (V.ref (ps[n]'(by rw [hw.fl.len]; exact hn))) := atI_nat (by rw [List.getElem?_map, hp]; rfl)
    refine ⟨_, rfl, x, rfl, fun c2 => ?_, fun c2 => k2 c (Tw.false_of Tw.isLength_iff c2)⟩
    obtain ⟨y, rfl⟩ := Int.eq_ofNat_of_zero_le (show 0 ≤ x by omega)
    refine ⟨_, rfl, wa, _, dw, _, _, rfl, hd, T.r.c_Wall.cl, T.r.a_Wall_machines, wlF_get, _, rfl, l, _, _, _, rfl, rfl, .of hw.fl.lst, hv,
      _, rfl, _, _, dx, _, _, rfl, e, T.r.c_Machine.cl, T.r.a_Machine_run_time, mF_run _, _, rfl, _, rfl, _, _, dx, _, rfl, e, T.r.c_Machine.cl, T.r.a_Machine_run_time, (by show 3 < 1000; decide), _, rfl, ?_⟩
    rw [mF_put_run]
    refine k3 c (Tw.isLength_iff.mpr c2) _ ⟨fun b o eb nb => ?_, free_upd fun _ z => z⟩ ⟨⟨dw, ?_⟩, hw.fl.set hp e, ?_, ?_⟩
    · rw [upd_ne]
      · exact eb
      · intro z
        subst z
        rw [e] at eb
        cases eb
        exact nb (.inr ⟨_, _, _, rfl⟩)
    · rw [upd_ne (ne_kind hd e (fun z => not_mach ⟨_, _, _, z⟩))]
      exact hd
    · rw [List.length_set]
      exact hw.most
    · have q := hw.fit.at hn
      exact hw.fit.set _ ⟨q.1, (show Int.toNat ((y : Nat) : Int) ≤ 99 by omega), q.2.2.1, q.2.2.2⟩
theorem at_srun (T : Txt K mg a) : Meth K a.c_Wall "set_run_time" a.f_Wall_set_run_time := by
  obtain ⟨fd, F⟩ := T.r.d_Wall_set_run_time
  exact meth_mk T.r.m_Wall_set_run_time T.r.y_Wall_set_run_time F
theorem sc_sser : FnScope ["self", "i", "service_time", "machine", "old_service_time"] ["self", "i", "service_time"] (defScope s_Wall_set_service_time) := ⟨rfl, rfl, rfl, by decide +kernel, rfl, by decide +kernel, by decide +kernel⟩
theorem ok_sser (T : Txt K mg a) : Kept P w K mg base (L2.CX P w) 6 a.f_Wall_set_service_time ["self", "i", "service_time"] (spSet a Sr120.isServiceTime (fun m => m.serviceTime) (fun m x => { m with serviceTime := x })) := by
  obtain ⟨fd, F⟩ := T.r.d_Wall_set_service_time
  obtain ⟨f1, F1, b1, k1⟩ := (ok_cser (P := P) (w := w) (base := base) T).ex
  obtain ⟨f2, F2, b2, k2⟩ := (ok_chk (P := P) (w := w) (base := base) T).ex
  refine ⟨fd, F.okX sc_sser (fun vs H Q E h => ?_) (fun cdv A outer s H vs Q E hr h => ?_), F.binds fun _ _ _ _ _ _ us hl => match us, hl with | [_, _, _], _ => rfl, F.kp⟩
  · obtain ⟨wa, l, ws, ps, i, x, rfl, _⟩ := h
    rfl
  · refine ⟨_, pss_cons (ps_expr (pe_meth (pv 0) T.r.c_Wall.cl (at_chk T) F2 (hr.mono (by decide)) b2 .nil (passes_call (takes_of rfl rfl rfl rfl) (fun _ _ _ _ z => z)) (pa_cons (pv 1) pa_nil)))
      (pss_cons (ps_expr (pe_call F1 hr rfl (T.g T.r.n_check_service_time) k1 b1 .nil (passes_call (takes_of rfl rfl rfl rfl) (fun _ _ _ _ z => z)) (pa_cons (pv 2) pa_nil)))
      (pss_cons (ps_set (i := 3) sc_sser.nd rfl (.inl rfl) (pe_ix ix_list (pe_fld (pv 0) rfl) (pv 1) (fun _ _ => rfl)))
      (pss_cons (ps_set (i := 4) sc_sser.nd rfl (.inl rfl) (pe_fld (pv 3) rfl))
      (pss_cons (ps_fld (pv 3) (pv 2) rfl)
      (pss_one (ps_ret (pv 4))))))), ?_⟩
    obtain ⟨wa, l, ws, ps, i, x, rfl, hw, k1, k2, k3⟩ := h
    obtain ⟨dw, hd⟩ := hw.obj
    refine ⟨_, rfl, wa, dw, _, rfl, hd, wlF_no (by decide +kernel), _, rfl, wa, l, ws, ps, i, rfl, hw, fun c => ?_, k1⟩
    obtain ⟨i0, i1⟩ := Tw.isMachine_iff.mp c
    obtain ⟨n, rfl⟩ := Int.eq_ofNat_of_zero_le i0
    have hn : n < ws.length := by omega
    have hp : ps[n]? = some (ps[n]'(by rw [hw.fl.len]; exact hn)) := List.getElem?_eq_getElem (by rw [hw.fl.len]; exact hn)
    obtain ⟨dx, e⟩ := hw.fl.mach n _ hp
    have hv : atI (ps.map V.ref) ((n : Nat) : Int) = some (V.ref (ps[n]'(by rw [hw.fl.len]; exact hn))) := atI_nat (by rw [List.getElem?_map, hp]; rfl)
    refine ⟨_, rfl, x, rfl, fun c2 => ?_, fun c2 => k2 c (Tw.false_of Tw.isService_iff c2)⟩
    obtain ⟨y, rfl⟩ := Int.eq_ofNat_of_zero_le (show 0 ≤ x by omega)
    refine ⟨_, rfl, wa, _, dw, _, _, rfl, hd, T.r.c_Wall.cl, T.r.a_Wall_machines, wlF_get, _, rfl, l, _, _, _, rfl, rfl, .of hw.fl.lst, hv,
      _, rfl, _, _, dx, _, _, rfl, e, T.r.c_Machine.cl, T.r.a_Machine_service_time, mF_ser _, _, rfl, _, rfl, _, _, dx, _, rfl, e, T.r.c_Machine.cl, T.r.a_Machine_service_time, (by show 3 < 1000; decide), _, rfl, ?_⟩
    rw [mF_put_ser]
    refine k3 c (Tw.isService_iff.mpr c2) _ ⟨fun b o eb nb => ?_, free_upd fun _ z => z⟩ ⟨⟨dw, ?_⟩, hw.fl.set hp e, ?_, ?_⟩
    · rw [upd_ne]
      · exact eb
      · intro z
        subst z
        rw [e] at eb
        cases eb
        exact nb (.inr ⟨_, _, _, rfl⟩)
    · rw [upd_ne (ne_kind hd e (fun z => not_mach ⟨_, _, _, z⟩))]
      exact hd
    · rw [List.length_set]
      exact hw.most
    · have q := hw.fit.at hn
      exact hw.fit.set _ ⟨q.1, q.2.1, (show 1 ≤ Int.toNat ((y : Nat) : Int) by omega), (show Int.toNat ((y : Nat) : Int) ≤ 99 by omega)⟩
theorem at_sser (T : Txt K mg a) : Meth K a.c_Wall "set_service_time" a.f_Wall_set_service_time := by
  obtain ⟨fd, F⟩ := T.r.d_Wall_set_service_time
  exact meth_mk T.r.m_Wall_set_service_time T.r.y_Wall_set_service_time F
/-! ### remove_machine(self, i) -/
def spRemove (a : Ad) : Sp := fun vs H Q E => ∃ (wa l : Addr) (ws : Sr120.Workshop) (ps : List Addr) (i : Int), vs = [.ref wa, .int i] ∧ WallAt a H wa l ws ps ∧
  (Sr120.isMachine ws i = false → Bad a.c_NoSuchMachine (-2) H E) ∧ (Sr120.isMachine ws i = true → ∀ H' ps', Wfrm l H H' → WallAt a H' wa l (ws.eraseIdx i.toNat) ps' → Q (.int (ws.length - 1 : Nat)) H')
theorem sc_remove : FnScope ["self", "i"] ["self", "i"] (defScope s_Wall_remove_machine) := ⟨rfl, rfl, rfl, by decide +kernel, rfl, by decide +kernel, by decide +kernel⟩
theorem ok_remove (T : Txt K mg a) : Kept P w K mg base (L2.CX P w) 6 a.f_Wall_remove_machine ["self", "i"] (spRemove a) := by
  obtain ⟨fd, F⟩ := T.r.d_Wall_remove_machine
  obtain ⟨f2, F2, b2, k2⟩ := (ok_chk (P := P) (w := w) (base := base) T).ex
  refine ⟨fd, F.okX sc_remove (fun vs H Q E h => ?_) (fun cdv A outer s H vs Q E hr h => ?_), F.binds fun _ _ _ _ _ _ us hl => match us, hl with | [_, _], _ => rfl, F.kp⟩
  · obtain ⟨wa, l, ws, ps, i, rfl, _⟩ := h
    rfl
  · refine ⟨_, pss_cons (ps_expr (pe_meth (pv 0) T.r.c_Wall.cl (at_chk T) F2 (hr.mono (by decide)) b2 .nil (passes_call (takes_of rfl rfl rfl rfl) (fun _ _ _ _ z => z)) (pa_cons (pv 1) pa_nil)))
      (pss_cons (ps_expr (pe_bm PySem.F.plainAttrs_list PySem.F.slot_list_pop PySem.F.type_list_pop mt_popAt (pe_fld (pv 0) rfl) (pa_cons (pv 1) pa_nil)))
      (pss_one (ps_ret (pe_callB call_len_seq (by rfl) (T.z T.r.z_len) PySem.boot_len (pa_cons (pe_fld (pv 0) rfl) pa_nil))))), ?_⟩
    obtain ⟨wa, l, ws, ps, i, rfl, hw, k1, k2⟩ := h
    obtain ⟨dw, hd⟩ := hw.obj
    refine ⟨_, rfl, wa, dw, _, rfl, hd, wlF_no (by decide +kernel), _, rfl, wa, l, ws, ps, i, rfl, hw, fun c => ?_, k1⟩
    obtain ⟨i0, i1⟩ := Tw.isMachine_iff.mp c
    obtain ⟨n, rfl⟩ := Int.eq_ofNat_of_zero_le i0
    have hn : n < ws.length := by omega
    have hm := hw.most
    have hn2 : n < (ps.map V.ref).length := by rw [List.length_map, hw.fl.len]; exact hn
    have hd2 : upd H l (.lst ((ps.map V.ref).eraseIdx n)) wa = some (.ins a.c_Wall dw (wlF l)) := by
      rw [upd_ne (ne_kind hd hw.fl.lst (fun z => by cases z))]
      exact hd
    refine ⟨_, rfl, wa, _, dw, _, _, rfl, hd, T.r.c_Wall.cl, T.r.a_Wall_machines, wlF_get, .inl ⟨rfl, _, .of hw.fl.lst⟩, _, rfl, l, _, _, n, _, rfl, rfl, hw.fl.lst, by omega, by omega, seq_at hn2, List.getElem?_eq_getElem hn2,
      _, rfl, wa, _, dw, _, _, rfl, hd2, T.r.c_Wall.cl, T.r.a_Wall_machines, wlF_get, l, _, rfl, .inl (.of upd_same), ?_⟩
    have eL : (((ps.map V.ref).eraseIdx n).length : Int) = ((ws.length - 1 : Nat) : Int) := by
      rw [List.length_eraseIdx, if_pos hn2, List.length_map, hw.fl.len]
    refine qint (Q := Q) eL (k2 c _ (ps.eraseIdx n) ⟨fun b o eb nb => ?_, free_upd fun _ z => z⟩ ⟨⟨dw, hd2⟩, hw.fl.erase n, ?_, hw.fit.cut n⟩)
    · rw [upd_ne (fun z => nb (.inl z))]
      exact eb
    · show (ws.eraseIdx n).length ≤ 6
      rw [List.length_eraseIdx]
      split <;> omega
theorem at_remove (T : Txt K mg a) : Meth K a.c_Wall "remove_machine" a.f_Wall_remove_machine := by
  obtain ⟨fd, F⟩ := T.r.d_Wall_remove_machine
  exact meth_mk T.r.m_Wall_remove_machine T.r.y_Wall_remove_machine F
/-! ### add_machine(self, position, run_time, service_time) -/
def spAdd (a : Ad) : Sp := fun vs H Q E => ∃ (wa l : Addr) (ws : Sr120.Workshop) (ps : List Addr) (x y z : Int), vs = [.ref wa, .int x, .int y, .int z] ∧ WallAt a H wa l ws ps ∧
  ((Sr120.isLength x = false ∨ Sr120.isLength y = false ∨ Sr120.isServiceTime z = false) → Bad a.c_BadParameter (-22) H E) ∧
  (¬ (Sr120.isLength x = false ∨ Sr120.isLength y = false ∨ Sr120.isServiceTime z = false) → 6 ≤ ws.length → Bad a.c_TooManyMachines (-28) H E) ∧
  (¬ (Sr120.isLength x = false ∨ Sr120.isLength y = false ∨ Sr120.isServiceTime z = false) → ¬ 6 ≤ ws.length → ∀ H' ps', Wfrm l H H' → WallAt a H' wa l (ws ++ [⟨x.toNat, y.toNat, z.toNat⟩]) ps' → Q (.int (ws.length : Nat)) H')
theorem sc_add : FnScope ["self", "position", "run_time", "service_time"] ["self", "position", "run_time", "service_time"] (defScope s_Wall_add_machine) := ⟨rfl, rfl, rfl, by decide +kernel, rfl, by decide +kernel, by decide +kernel⟩
theorem ok_add (T : Txt K mg a) : Kept P w K mg base (L2.CX P w) 6 a.f_Wall_add_machine ["self", "position", "run_time", "service_time"] (spAdd a) := by
  obtain ⟨fd, F⟩ := T.r.d_Wall_add_machine
  obtain ⟨fm, Fm⟩ := T.r.d_Machine_init
  obtain ⟨f1, F1, b1, k1⟩ := (ok_cpos (P := P) (w := w) (base := base) T).ex
  obtain ⟨f2, F2, b2, k2⟩ := (ok_crun (P := P) (w := w) (base := base) T).ex
  obtain ⟨f3, F3, b3, k3⟩ := (ok_cser (P := P) (w := w) (base := base) T).ex
  obtain ⟨f4, F4, b4, k4⟩ := (ok_TooManyMachines (P := P) (w := w) (base := base) T).ex
  obtain ⟨f5, F5, b5, k5⟩ := (ok_minit (P := P) (w := w) (base := base) T).ex
  have MK : Mk K a.c_Machine a.f_Machine_init := ⟨T.r.c_Machine.mks, T.r.m_Machine_init, by unfold PySem.W.isFn; rw [T.r.y_Machine_init]; rfl, T.r.c_Machine.kp⟩
  refine ⟨fd, F.okX sc_add (fun vs H Q E h => ?_) (fun cdv A outer s H vs Q E hr h => ?_), F.binds fun _ _ _ _ _ _ us hl => match us, hl with | [_, _, _, _], _ => rfl, F.kp⟩
  · obtain ⟨wa, l, ws, ps, x, y, z, rfl, _⟩ := h
    rfl
  · refine ⟨_, pss_cons (ps_expr (pe_call F1 hr rfl (T.g T.r.n_check_position) k1 b1 .nil (passes_call (takes_of rfl rfl rfl rfl) (fun _ _ _ _ z => z)) (pa_cons (pv 1) pa_nil)))
      (pss_cons (ps_expr (pe_call F2 hr rfl (T.g T.r.n_check_run_time) k2 b2 .nil (passes_call (takes_of rfl rfl rfl rfl) (fun _ _ _ _ z => z)) (pa_cons (pv 2) pa_nil)))
      (pss_cons (ps_expr (pe_call F3 hr rfl (T.g T.r.n_check_service_time) k3 b3 .nil (passes_call (takes_of rfl rfl rfl rfl) (fun _ _ _ _ z => z)) (pa_cons (pv 3) pa_nil)))
      (pss_cons (ps_if (pt_cmpR op_ge (pe_callB call_len_seq (by rfl) (T.z T.r.z_len) PySem.boot_len (pa_cons (pe_fld (pv 0) rfl) pa_nil)) (pe_mod (T.int T.r.v_MOST_MACHINES)) (nomark _))
        (pss_one (ps_raise rfl (takes_of rfl rfl rfl rfl) (pmk_err0 T.r.e_TooManyMachines.er T.r.m_TooManyMachines_init T.r.y_TooManyMachines_init F4 (hr.mono (by decide)) b4 pass0 rfl (T.g T.r.n_TooManyMachines)))) pss_nil)
      (pss_cons (ps_expr (pe_bm PySem.F.plainAttrs_list PySem.F.slot_list_append PySem.F.type_list_append mt_append (pe_fld (pv 0) rfl) (pa_cons (pe_make MK F5 (hr.mono (by decide)) rfl (T.g T.r.n_Machine) b5 .nil pass0 (pa_cons (pv 1) (pa_cons (pv 2) (pa_cons (pv 3) pa_nil)))) pa_nil)))
      (pss_one (ps_ret (pe_op op_sub (pe_callB call_len_seq (by rfl) (T.z T.r.z_len) PySem.boot_len (pa_cons (pe_fld (pv 0) rfl) pa_nil)) pe_int))))))), ?_⟩
    obtain ⟨wa, l, ws, ps, x, y, z, rfl, hw, k1, k2, k3⟩ := h
    obtain ⟨dw, hd⟩ := hw.obj
    refine ⟨_, rfl, x, rfl, fun c1 => ?_, fun c1 => k1 (.inl (Tw.false_of Tw.isLength_iff c1))⟩
    refine ⟨_, rfl, y, rfl, fun c2 => ?_, fun c2 => k1 (.inr (.inl (Tw.false_of Tw.isLength_iff c2)))⟩
    refine ⟨_, rfl, z, rfl, fun c3 => ?_, fun c3 => k1 (.inr (.inr (Tw.false_of Tw.isService_iff c3)))⟩
    have ok : ¬ (Sr120.isLength x = false ∨ Sr120.isLength y = false ∨ Sr120.isServiceTime z = false) := by
      rw [Tw.isLength_iff.mpr c1, Tw.isLength_iff.mpr c2, Tw.isService_iff.mpr c3]
      intro q
      rcases q with q | q | q <;> cases q
    have eL : (ps.map V.ref).length = ws.length := by rw [List.length_map, hw.fl.len]
    refine ⟨_, rfl, wa, _, dw, _, _, rfl, hd, T.r.c_Wall.cl, T.r.a_Wall_machines, wlF_get, l, _, rfl, .inl (.of hw.fl.lst), _, _, rfl, rfl, _, rfl, ite2 (fun c => ?_) (fun c => ?_)⟩
    · have c := of_decide_eq_true c
      rw [eL] at c
      exact err_raise T.r.e_TooManyMachines.er T.r.g_TooManyMachines (k2 ok (by omega))
    · have c : ¬ ((6 : Int) ≤ (((ps.map V.ref).length : Nat) : Int)) := fun q => c (decide_eq_true q)
      rw [eL] at c
      obtain ⟨x, rfl⟩ := Int.eq_ofNat_of_zero_le c1.1
      obtain ⟨y, rfl⟩ := Int.eq_ofNat_of_zero_le c2.1
      obtain ⟨z, rfl⟩ := Int.eq_ofNat_of_zero_le (show 0 ≤ z by omega)
      refine ⟨_, rfl, wa, _, dw, _, _, rfl, hd, T.r.c_Wall.cl, T.r.a_Wall_machines, wlF_get, .inl ⟨rfl, _, .of hw.fl.lst⟩, _, rfl, _, rfl, _, rfl, fun p dx np ndx ne => ⟨p, dx, ⟨x, y, z⟩, rfl, upd_same, rfl, ?_⟩⟩
      have S : Same H (upd (upd (upd H dx (.own p)) p (.ins a.c_Machine dx [])) p (.ins a.c_Machine dx (mF ⟨x, y, z⟩))) := fun b o e => by
        rw [upd_ne (ne_of_none e np), upd_ne (ne_of_none e np), upd_ne (ne_of_none e ndx)]
        exact e
      have hd2 : upd (upd (upd (upd H dx (.own p)) p (.ins a.c_Machine dx [])) p (.ins a.c_Machine dx (mF ⟨x, y, z⟩))) l (.lst (ps.map V.ref ++ [V.ref p])) wa = some (.ins a.c_Wall dw (wlF l)) := by
        rw [upd_ne (ne_kind hd hw.fl.lst (fun z => by cases z))]
        exact S _ _ hd
      refine ⟨l, _, _, rfl, rfl, S _ _ hw.fl.lst, small1000 (by rw [eL]; omega), _, rfl, wa, _, dw, _, _, rfl, hd2, T.r.c_Wall.cl, T.r.a_Wall_machines, wlF_get, l, _, rfl, .inl (.of upd_same), _, _, rfl, rfl, ?_⟩
      have eR : (((ps.map V.ref ++ [V.ref p]).length : Nat) : Int) - 1 = ((ws.length : Nat) : Int) := by
        rw [List.length_append, eL]
        show ((ws.length + 1 : Nat) : Int) - 1 = _
        omega
      refine qint (Q := Q) eR (k3 ok (by omega) _ (ps ++ [p]) ⟨fun b o eb nb => ?_, free_upd fun _ => S.free⟩ ⟨⟨dw, hd2⟩, hw.fl.push S np upd_same, ?_, hw.fit.push ⟨(show Int.toNat ((x : Nat) : Int) ≤ 99 by omega), (show Int.toNat ((y : Nat) : Int) ≤ 99 by omega), (show 1 ≤ Int.toNat ((z : Nat) : Int) by omega), (show Int.toNat ((z : Nat) : Int) ≤ 99 by omega)⟩⟩)
      · rw [upd_ne (fun z => nb (.inl z))]
        exact S _ _ eb
      · rw [List.length_append]
        show ws.length + 1 ≤ 6
        omega
theorem at_add (T : Txt K mg a) : Meth K a.c_Wall "add_machine" a.f_Wall_add_machine := by
  obtain ⟨fd, F⟩ := T.r.d_Wall_add_machine
  exact meth_mk T.r.m_Wall_add_machine T.r.y_Wall_add_machine F
end
end Tp

set_option maxRecDepth 100000
set_option maxHeartbeats 4000000
namespace Tw
open Sr120 SrCommon
theorem back_nats (t : List Nat) : intsToNats (natsToInts t) = t := by
  unfold intsToNats natsToInts
  rw [List.map_map]
  exact (List.map_congr_left fun x _ => Int.toNat_natCast x).trans (List.map_id _)
theorem tour_of {w : Workshop} {t : List Nat} (nd : t.Nodup) (h : ∀ i ∈ t, i < w.length) : isTour w (natsToInts t) = true := by
  unfold isTour
  rw [Bool.and_eq_true, decide_eq_true_eq, List.all_eq_true]
  refine ⟨?_, fun z hz => ?_⟩
  · unfold natsToInts
    refine List.nodup_iff_pairwise_ne.mpr (List.pairwise_map.mpr ?_)
    exact (List.nodup_iff_pairwise_ne.mp nd).imp fun q e => q (by omega)
  · obtain ⟨i, hi, rfl⟩ := List.mem_map.mp hz
    have := h i hi
    exact isMachine_iff.mpr ⟨Int.natCast_nonneg _, by omega⟩
theorem order_tour (w : Workshop) : isTour w (natsToInts (wallOrder w (allMachines w))) = true :=
  tour_of ((order_perm w _).nodup_iff.mpr List.nodup_range) fun i hi => all_lt i ((order_perm w _).mem_iff.mp hi)
theorem isSched_iff {x : Int} : isScheduleTime x = true ↔ 0 ≤ x ∧ x ≤ 9999 := by
  unfold isScheduleTime inRange
  rw [Bool.and_eq_true, decide_eq_true_eq, decide_eq_true_eq]
end Tw
namespace Tp
open PySem PySem.Spec PyProof.Rows L2 TwX TwY
theorem intv_nats {t : List Int} (h : ∀ z ∈ t, 0 ≤ z) : intv t = nats (SrCommon.intsToNats t) := by
  unfold intv nats SrCommon.intsToNats
  rw [List.map_map]
  refine List.map_congr_left fun z hz => ?_
  show V.int z = V.int ((z.toNat : Nat) : Int)
  rw [Int.toNat_of_nonneg (h z hz)]
theorem nats_back (t : List Nat) : nats t = intv (SrCommon.natsToInts t) := (List.map_map).symm
/-- one machine put for another -/
theorem FleetD.swap {C : Addr} {H H' : Hp} {l q x dx : Addr} {w : Sr120.Workshop} {ps : List Addr} {n r : Nat} (h : FleetD C H l w ps) (hn : n < w.length) (S : Same H H') (hx : H' x = some (.ins C dx (mF { Sr120.machineAt w n with runTime := r })))
    (hq : H' q = some (.lst ((ps.map V.ref).take n ++ [V.ref x] ++ (ps.map V.ref).drop (n + 1)))) : Fleet C H' q (Sr120.withRunTime w n r) := by
  have hl : n < ps.length := by rw [h.len]; exact hn
  refine ⟨ps.set n x, ?_, ?_, fun i p hp => ?_⟩
  · rw [hq, ← List.map_take, ← List.map_drop, List.set_eq_take_append_cons_drop, if_pos hl, List.map_append, List.map_cons, List.append_assoc]
    rfl
  · rw [List.length_set, h.len, Tw.if_len]
  · rw [Tw.if_at w r hn]
    rw [List.getElem?_set] at hp
    by_cases c : n = i
    · rw [if_pos c, if_pos hl] at hp
      cases hp
      rw [if_pos c.symm]
      exact ⟨dx, hx⟩
    · rw [if_neg c] at hp
      rw [if_neg (fun e => c e.symm)]
      obtain ⟨dx2, e2⟩ := h.mach i p hp
      exact ⟨dx2, S _ _ e2⟩
section
variable {P : Program} {w : World} {K : PySem.W.Frag} {mg : Str → Option Value} {base : Heap} {a : Ad}
/-! ### wall_order(self) -/
def spWOrder (a : Ad) : Sp := fun vs H Q _ => ∃ (wa l : Addr) (ws : Sr120.Workshop) (ps : List Addr), vs = [.ref wa] ∧ WallAt a H wa l ws ps ∧ ∀ H' r, Same H H' → H r = none → H' r = some (.lst (nats (Sr120.wallOrder ws (Sr120.allMachines ws)))) → Q (.ref r) H'
theorem sc_worder : FnScope ["self"] ["self"] (defScope s_Wall_wall_order) := ⟨rfl, rfl, rfl, by decide +kernel, rfl, by decide +kernel, by decide +kernel⟩
theorem ok_worder (T : Txt K mg a) : Kept P w K mg base CX0 2 a.f_Wall_wall_order ["self"] (spWOrder a) := by
  obtain ⟨fd, F⟩ := T.r.d_Wall_wall_order
  obtain ⟨f1, F1, b1, k1⟩ := (ok_order (P := P) (w := w) (base := base) T).ex
  obtain ⟨f2, F2, b2, k2⟩ := (ok_all (P := P) (w := w) (base := base) T).ex
  refine ⟨fd, F.ok sc_worder (fun vs H Q E h => ?_) (fun cdv A outer s H vs Q E hr h => ?_), F.binds fun _ _ _ _ _ _ us hl => match us, hl with | [_], _ => rfl, F.kp⟩
  · obtain ⟨wa, l, ws, ps, rfl, _⟩ := h
    rfl
  · refine ⟨_, pss_one (ps_ret (pe_call F1 hr rfl (T.g T.r.n_find_wall_order) k1 b1 .nil pass0 (pa_cons (pe_fld (pv 0) rfl) (pa_cons (pe_meth0 (pv 0) T.r.c_Wall.cl (at_all T) F2 hr b2 .nil pass0) pa_nil)))), ?_⟩
    obtain ⟨wa, l, ws, ps, rfl, hw, k⟩ := h
    obtain ⟨dx, hd⟩ := hw.obj
    have h6 := hw.most
    exact ⟨_, rfl, wa, _, dx, _, _, rfl, hd, T.r.c_Wall.cl, T.r.a_Wall_machines, wlF_get, _, rfl, wa, dx, _, rfl, hd, wlF_no (by decide +kernel), wa, l, ws, ps, rfl, hw, fun H1 r S1 _ e1 => ⟨l, r, ws, Sr120.allMachines ws, rfl, hw.fl.fleet.same S1, .of e1, Tw.sorted_range ws, Tw.all_lt, by rw [Tw.all_len]; omega,
      fun H2 r2 S2 n2 e2 => k H2 r2 (S1.trans S2) (S1.free n2) e2⟩⟩
theorem at_worder (T : Txt K mg a) : Meth K a.c_Wall "wall_order" a.f_Wall_wall_order := by
  obtain ⟨fd, F⟩ := T.r.d_Wall_wall_order
  exact meth_mk T.r.m_Wall_wall_order T.r.y_Wall_wall_order F
/-! ### start_times(self, tour) -/
def spWStarts (a : Ad) (K : PySem.W.Frag) : Sp := fun vs H Q E => ∃ (wa l t : Addr) (ws : Sr120.Workshop) (ps : List Addr) (tour : List Int), vs = [.ref wa, .ref t] ∧ WallAt a H wa l ws ps ∧ SqL K H t (intv tour) ∧ tour.length ≤ 100 ∧
  (Sr120.isTour ws tour = true → ∀ H' r, Same H H' → H r = none → H' r = some (.lst (nats (Sr120.startTimes ws (SrCommon.intsToNats tour)))) → Q (.ref r) H') ∧ (Sr120.isTour ws tour = false → Bad a.c_BadParameter (-22) H E)
theorem sc_wstarts : FnScope ["self", "tour"] ["self", "tour"] (defScope s_Wall_start_times) := ⟨rfl, rfl, rfl, by decide +kernel, rfl, by decide +kernel, by decide +kernel⟩
theorem ok_wstarts (T : Txt K mg a) : Kept P w K mg base (L2.CX P w) 5 a.f_Wall_start_times ["self", "tour"] (spWStarts a K) := by
  obtain ⟨fd, F⟩ := T.r.d_Wall_start_times
  obtain ⟨f1, F1, b1, k1⟩ := (ok_starts (P := P) (w := w) (base := base) T).ex
  obtain ⟨f2, F2, b2, k2⟩ := (ok_tour (P := P) (w := w) (base := base) T).ex
  refine ⟨fd, F.okX sc_wstarts (fun vs H Q E h => ?_) (fun cdv A outer s H vs Q E hr h => ?_), F.binds fun _ _ _ _ _ _ us hl => match us, hl with | [_, _], _ => rfl, F.kp⟩
  · obtain ⟨wa, l, t, ws, ps, i, rfl, _⟩ := h
    rfl
  · refine ⟨_, pss_cons (ps_expr (pe_meth (pv 0) T.r.c_Wall.cl (at_tour T) F2 (hr.mono (by decide)) b2 .nil (passes_call (takes_of rfl rfl rfl rfl) (fun _ _ _ _ z => z)) (pa_cons (pv 1) pa_nil)))
      (pss_one (ps_ret (pe_call F1 (hr.mono (by decide)) rfl (T.g T.r.n_find_start_times) k1 b1 .nil pass0 (pa_cons (pe_fld (pv 0) rfl) (pa_cons (pv 1) pa_nil))))), ?_⟩
    obtain ⟨wa, l, t, ws, ps, tour, rfl, hw, ht, hlen, k1, k2⟩ := h
    obtain ⟨dx, hd⟩ := hw.obj
    refine ⟨_, rfl, wa, dx, _, rfl, hd, wlF_no (by decide +kernel), _, rfl, wa, l, t, ws, ps, tour, rfl, hw, ht, hlen, fun c H1 S1 => ?_, k2⟩
    obtain ⟨e1, e2, e3⟩ := tour_nats c
    refine ⟨_, rfl, wa, _, dx, _, _, rfl, S1 _ _ hd, T.r.c_Wall.cl, T.r.a_Wall_machines, wlF_get, _, rfl, l, t, ws, SrCommon.intsToNats tour, rfl, hw.fl.fleet.same S1, by rw [← e1]; exact S1.seq ht, e2, by omega, fun H2 r S2 nr er => k1 c H2 r (S1.trans S2) (S1.free nr) er⟩
theorem at_wstarts (T : Txt K mg a) : Meth K a.c_Wall "start_times" a.f_Wall_start_times := by
  obtain ⟨fd, F⟩ := T.r.d_Wall_start_times
  exact meth_mk T.r.m_Wall_start_times T.r.y_Wall_start_times F
/-! ### idle_time(self, i) -/
def spIdle (a : Ad) : Sp := fun vs H Q E => ∃ (wa l : Addr) (ws : Sr120.Workshop) (ps : List Addr) (i : Int), vs = [.ref wa, .int i] ∧ WallAt a H wa l ws ps ∧
  (Sr120.isMachine ws i = true → ∀ H', Same H H' → Q (.int ((Sr120.minCycleTime ws (Sr120.allMachines ws) - ((Sr120.machineAt ws i.toNat).runTime + (Sr120.machineAt ws i.toNat).serviceTime) : Nat) : Int)) H') ∧ (Sr120.isMachine ws i = false → Bad a.c_NoSuchMachine (-2) H E)
theorem sc_idle : FnScope ["self", "i"] ["self", "i"] (defScope s_Wall_idle_time) := ⟨rfl, rfl, rfl, by decide +kernel, rfl, by decide +kernel, by decide +kernel⟩
theorem ok_idle (T : Txt K mg a) : Kept P w K mg base (L2.CX P w) 5 a.f_Wall_idle_time ["self", "i"] (spIdle a) := by
  obtain ⟨fd, F⟩ := T.r.d_Wall_idle_time
  obtain ⟨f1, F1, b1, k1⟩ := (ok_chk (P := P) (w := w) (base := base) T).ex
  obtain ⟨f2, F2, b2, k2⟩ := (ok_wmin (P := P) (w := w) (base := base) T).ex
  obtain ⟨f3, F3, b3, k3⟩ := (ok_own (P := P) (w := w) (base := base) T).ex
  refine ⟨fd, F.okX sc_idle (fun vs H Q E h => ?_) (fun cdv A outer s H vs Q E hr h => ?_), F.binds fun _ _ _ _ _ _ us hl => match us, hl with | [_, _], _ => rfl, F.kp⟩
  · obtain ⟨wa, l, ws, ps, i, rfl, _⟩ := h
    rfl
  · refine ⟨_, pss_cons (ps_expr (pe_meth (pv 0) T.r.c_Wall.cl (at_chk T) F1 (hr.mono (by decide)) b1 .nil (passes_call (takes_of rfl rfl rfl rfl) (fun _ _ _ _ z => z)) (pa_cons (pv 1) pa_nil)))
      (pss_one (ps_ret (pe_op op_sub (pe_meth0 (pv 0) T.r.c_Wall.cl (at_wmin T) F2 (hr.mono (by decide)) b2 .nil pass0) (pe_meth0 (pe_ix ix_list (pe_fld (pv 0) rfl) (pv 1) (fun _ _ => rfl)) T.r.c_Machine.cl (at_own T) F3 (hr.mono (by decide)) b3 .nil pass0)))), ?_⟩
    obtain ⟨wa, l, ws, ps, i, rfl, hw, k1, k2⟩ := h
    obtain ⟨dw, hd⟩ := hw.obj
    refine ⟨_, rfl, wa, dw, _, rfl, hd, wlF_no (by decide +kernel), _, rfl, wa, l, ws, ps, i, rfl, hw, fun c => ?_, k2⟩
    obtain ⟨i0, i1⟩ := Tw.isMachine_iff.mp c
    obtain ⟨n, rfl⟩ := Int.eq_ofNat_of_zero_le i0
    have hn : n < ws.length := by omega
    refine ⟨_, rfl, wa, dw, _, rfl, hd, wlF_no (by decide +kernel), wa, l, ws, ps, rfl, hw, fun H1 S1 => ?_⟩
    obtain ⟨xs, p, dx, e1, e2, e3⟩ := (hw.fl.fleet.same S1).at hn
    refine ⟨_, rfl, wa, _, dw, _, _, rfl, S1 _ _ hd, T.r.c_Wall.cl, T.r.a_Wall_machines, wlF_get, _, rfl, l, xs, _, _, rfl, rfl, .of e1, e2, p, dx, _, rfl, e3, mF_own _, p, dx, _, rfl, e3, _, _, rfl, rfl, ?_⟩
    have h1 := Tw.own_le ws (Sr120.allMachines ws) (i := n) (List.mem_range.mpr hn)
    have h2 := Tw.longest_closed ws (Sr120.allMachines ws)
    have h3 := Tw.min_closed ws (Sr120.allMachines ws) List.nodup_range
    exact qint (Q := Q) (by
      show _ = (((Sr120.minCycleTime ws (Sr120.allMachines ws) - ((Sr120.machineAt ws n).runTime + (Sr120.machineAt ws n).serviceTime) : Nat)) : Int)
      omega) (k1 c H1 S1)
theorem at_idle (T : Txt K mg a) : Meth K a.c_Wall "idle_time" a.f_Wall_idle_time := by
  obtain ⟨fd, F⟩ := T.r.d_Wall_idle_time
  exact meth_mk T.r.m_Wall_idle_time T.r.y_Wall_idle_time F
/-! ### utilization(self) -/
def spUtil (a : Ad) : Sp := fun vs H Q E => ∃ (wa l : Addr) (ws : Sr120.Workshop) (ps : List Addr), vs = [.ref wa] ∧ WallAt a H wa l ws ps ∧ (ws = [] → Bad a.c_NoMachines (-6) H E) ∧
  (ws ≠ [] → ∀ H' r, Same H H' → H r = none → H' r = some (.lst (intv (SrFraction.encode (SrFraction.mk (Sr120.busyTime ws (Sr120.wallOrder ws (Sr120.allMachines ws)) : Nat) (Sr120.minCycleTime ws (Sr120.allMachines ws)))))) → Q (.ref r) H')
theorem sc_util : FnScope ["self"] ["self"] (defScope s_Wall_utilization) := ⟨rfl, rfl, rfl, by decide +kernel, rfl, by decide +kernel, by decide +kernel⟩
theorem ok_util (T : Txt K mg a) : Kept P w K mg base (L2.CX P w) 6 a.f_Wall_utilization ["self"] (spUtil a) := by
  obtain ⟨fd, F⟩ := T.r.d_Wall_utilization
  obtain ⟨f1, F1, b1, k1⟩ := (ok_low (P := P) (w := w) (base := base) T).ex
  obtain ⟨f2, F2, b2, k2⟩ := (ok_wbusy (P := P) (w := w) (base := base) T).ex
  obtain ⟨f3, F3, b3, k3⟩ := (ok_worder (P := P) (w := w) (base := base) T).ex
  obtain ⟨f4, F4, b4, k4⟩ := (ok_wmin (P := P) (w := w) (base := base) T).ex
  obtain ⟨f5, F5, b5, k5⟩ := (ok_NoMachines (P := P) (w := w) (base := base) T).ex
  refine ⟨fd, F.okX sc_util (fun vs H Q E h => ?_) (fun cdv A outer s H vs Q E hr h => ?_), F.binds fun _ _ _ _ _ _ us hl => match us, hl with | [_], _ => rfl, F.kp⟩
  · obtain ⟨wa, l, ws, ps, rfl, _⟩ := h
    rfl
  · refine ⟨_, pss_cons (ps_if (pt_cmpR op_eq (pe_callB call_len_seq (by rfl) (T.z T.r.z_len) PySem.boot_len (pa_cons (pe_fld (pv 0) rfl) pa_nil)) pe_int (nomark _))
        (pss_one (ps_raise rfl (takes_of rfl rfl rfl rfl) (pmk_err0 T.r.e_NoMachines.er T.r.m_NoMachines_init T.r.y_NoMachines_init F5 (hr.mono (by decide)) b5 pass0 rfl (T.g T.r.n_NoMachines)))) pss_nil)
      (pss_one (ps_ret (pe_call F1 (hr.mono (by decide)) rfl (T.g T.r.n_find_lowest_terms) k1 b1 .nil pass0 (pa_cons (pe_meth (pv 0) T.r.c_Wall.cl (at_wbusy T) F2 hr b2 .nil (passes_call (takes_of rfl rfl rfl rfl) (fun _ _ _ _ z => z)) (pa_cons (pe_meth0 (pv 0) T.r.c_Wall.cl (at_worder T) F3 (hr.mono (by decide)) b3 .nil pass0) pa_nil))
        (pa_cons (pe_meth0 (pv 0) T.r.c_Wall.cl (at_wmin T) F4 (hr.mono (by decide)) b4 .nil pass0) pa_nil))))), ?_⟩
    obtain ⟨wa, l, ws, ps, rfl, hw, k1, k2⟩ := h
    obtain ⟨dw, hd⟩ := hw.obj
    have eL : (ps.map V.ref).length = ws.length := by rw [List.length_map, hw.fl.len]
    refine ⟨_, rfl, wa, _, dw, _, _, rfl, hd, T.r.c_Wall.cl, T.r.a_Wall_machines, wlF_get, l, _, rfl, .inl (.of hw.fl.lst), rfl, _, rfl, ?_⟩
    rw [eL]
    refine ite2 (fun c => ?_) (fun c => ?_)
    · have c := of_decide_eq_true c
      injection c with c
      exact err_raise T.r.e_NoMachines.er T.r.g_NoMachines (k1 (List.length_eq_zero_iff.mp (by omega)))
    · have c0 : ws ≠ [] := fun e => c (decide_eq_true (by rw [e]; rfl))
      have h6 := hw.most
      have hall : (Sr120.allMachines ws) ≠ [] := fun e => c0 (by
        have z := Tw.all_len ws
        rw [e] at z
        exact List.length_eq_zero_iff.mp z.symm)
      have m1 := Tw.closed_least (t := Sr120.allMachines ws) hw.fit Tw.all_lt hall
      have m2 := Tw.closed_most (t := Sr120.allMachines ws) hw.fit Tw.all_lt (by rw [Tw.all_len]; exact h6)
      have m3 := Tw.min_closed ws (Sr120.allMachines ws) List.nodup_range
      refine ⟨_, rfl, wa, dw, _, rfl, hd, wlF_no (by decide +kernel), _, rfl, wa, dw, _, rfl, hd, wlF_no (by decide +kernel), wa, l, ws, ps, rfl, hw, fun H1 r S1 nr er => ?_⟩
      rw [nats_back] at er
      refine ⟨wa, l, r, ws, ps, _, rfl, hw.same S1, .of er, ?_, fun _ H2 S2 => ?_, fun z => ?_⟩
      · have z := (Tw.order_perm ws (Sr120.allMachines ws)).length_eq
        show (List.map _ _).length ≤ 100
        rw [List.length_map, z, Tw.all_len]
        omega
      · rw [Tw.back_nats]
        refine ⟨_, rfl, wa, dw, _, rfl, S2 _ _ (S1 _ _ hd), wlF_no (by decide +kernel), wa, l, ws, ps, rfl, hw.same (S1.trans S2), fun H3 S3 => ⟨_, _, rfl, by omega, by omega, fun H4 q S4 nq eq => k2 c0 H4 q (((S1.trans S2).trans S3).trans S4) (((S1.trans S2).trans S3).free nq) eq⟩⟩
      · rw [Tw.order_tour ws] at z
        cases z
theorem at_util (T : Txt K mg a) : Meth K a.c_Wall "utilization" a.f_Wall_utilization := by
  obtain ⟨fd, F⟩ := T.r.d_Wall_utilization
  exact meth_mk T.r.m_Wall_utilization T.r.y_Wall_utilization F
end
end Tp

set_option maxRecDepth 100000
set_option maxHeartbeats 4000000
namespace Tp
open PySem PySem.Spec PyProof.Rows L2 TwX TwY
section
variable {P : Program} {w : World} {K : PySem.W.Frag} {mg : Str → Option Value} {base : Heap} {a : Ad}
/-! ### largest_group(self, limit) -/
def spWGroup (a : Ad) : Sp := fun vs H Q E => ∃ (wa l : Addr) (ws : Sr120.Workshop) (ps : List Addr) (lim : Int), vs = [.ref wa, .int lim] ∧ WallAt a H wa l ws ps ∧ (lim < 0 → Bad a.c_BadParameter (-22) H E) ∧
  (¬ lim < 0 → ∀ H' r, Same H H' → H r = none → H' r = some (.lst (nats (Sr120.largestGroup ws lim.toNat))) → Q (.ref r) H')
theorem sc_wgroup : FnScope ["self", "limit"] ["self", "limit"] (defScope s_Wall_largest_group) := ⟨rfl, rfl, rfl, by decide +kernel, rfl, by decide +kernel, by decide +kernel⟩
theorem ok_wgroup (T : Txt K mg a) : Kept P w K mg base (L2.CX P w) 5 a.f_Wall_largest_group ["self", "limit"] (spWGroup a) := by
  obtain ⟨fd, F⟩ := T.r.d_Wall_largest_group
  obtain ⟨f1, F1, b1, k1⟩ := (ok_group (P := P) (w := w) (base := base) T).ex
  obtain ⟨f2, F2, b2, k2⟩ := (ok_BadParameter (P := P) (w := w) (base := base) T).ex
  refine ⟨fd, F.okX sc_wgroup (fun vs H Q E h => ?_) (fun cdv A outer s H vs Q E hr h => ?_), F.binds fun _ _ _ _ _ _ us hl => match us, hl with | [_, _], _ => rfl, F.kp⟩
  · obtain ⟨wa, l, ws, ps, lim, rfl, _⟩ := h
    rfl
  · refine ⟨_, pss_cons (ps_if (pt_cmpR op_lt (pv 1) pe_int (nomark _)) (pss_one (ps_raise rfl (takes_of rfl rfl rfl rfl) (pmk_err0 T.r.e_BadParameter.er T.r.m_BadParameter_init T.r.y_BadParameter_init F2 (hr.mono (by decide)) b2 pass0 rfl (T.g T.r.n_BadParameter)))) pss_nil)
      (pss_one (ps_ret (pe_call F1 hr rfl (T.g T.r.n_find_largest_group) k1 b1 .nil pass0 (pa_cons (pe_fld (pv 0) rfl) (pa_cons (pv 1) pa_nil))))), ?_⟩
    obtain ⟨wa, l, ws, ps, lim, rfl, hw, k1, k2⟩ := h
    obtain ⟨dw, hd⟩ := hw.obj
    refine ⟨_, rfl, _, _, rfl, rfl, _, rfl, ite2 (fun c => ?_) (fun c => ?_)⟩
    · exact err_raise T.r.e_BadParameter.er T.r.g_BadParameter (k1 (of_decide_eq_true c))
    · have c : ¬ lim < 0 := fun z => c (decide_eq_true z)
      obtain ⟨n, rfl⟩ := Int.eq_ofNat_of_zero_le (show 0 ≤ lim by omega)
      exact ⟨_, rfl, wa, _, dw, _, _, rfl, hd, T.r.c_Wall.cl, T.r.a_Wall_machines, wlF_get, _, rfl, l, ws, n, rfl, hw.fl.fleet, hw.most, fun H' r S nr er => k2 c H' r S nr er⟩
theorem at_wgroup (T : Txt K mg a) : Meth K a.c_Wall "largest_group" a.f_Wall_largest_group := by
  obtain ⟨fd, F⟩ := T.r.d_Wall_largest_group
  exact meth_mk T.r.m_Wall_largest_group T.r.y_Wall_largest_group F
/-! ### best_tour_of(self, mask) -/
def spWBestOf (a : Ad) : Sp := fun vs H Q E => ∃ (wa l : Addr) (ws : Sr120.Workshop) (ps : List Addr) (mask : Int), vs = [.ref wa, .int mask] ∧ WallAt a H wa l ws ps ∧ ((mask < 0 ∨ ((2 ^ ws.length : Nat) : Int) ≤ mask) → Bad a.c_BadParameter (-22) H E) ∧
  (¬ (mask < 0 ∨ ((2 ^ ws.length : Nat) : Int) ≤ mask) → ∀ H' r, Same H H' → H r = none → H' r = some (.lst (nats (Sr120.bestTour ws (SrCommon.maskMembers ws.length mask.toNat)))) → Q (.ref r) H')
theorem sc_wbestof : FnScope ["self", "mask"] ["self", "mask"] (defScope s_Wall_best_tour_of) := ⟨rfl, rfl, rfl, by decide +kernel, rfl, by decide +kernel, by decide +kernel⟩
theorem ok_wbestof (T : Txt K mg a) : Kept P w K mg base (L2.CX P w) 7 a.f_Wall_best_tour_of ["self", "mask"] (spWBestOf a) := by
  obtain ⟨fd, F⟩ := T.r.d_Wall_best_tour_of
  obtain ⟨f1, F1, b1, k1⟩ := (ok_best (P := P) (w := w) (base := base) T).ex
  obtain ⟨f2, F2, b2, k2⟩ := (ok_range (P := P) (w := w) (base := base) T).ex
  obtain ⟨f3, F3, b3, k3⟩ := (ok_masks (P := P) (w := w) (base := base) T).ex
  obtain ⟨f4, F4, b4, k4⟩ := (ok_members (P := P) (w := w) (base := base) T).ex
  refine ⟨fd, F.okX sc_wbestof (fun vs H Q E h => ?_) (fun cdv A outer s H vs Q E hr h => ?_), F.binds fun _ _ _ _ _ _ us hl => match us, hl with | [_, _], _ => rfl, F.kp⟩
  · obtain ⟨wa, l, ws, ps, mask, rfl, _⟩ := h
    rfl
  · refine ⟨_, pss_cons (ps_expr (pe_call F2 (hr.mono (by decide)) rfl (T.g T.r.n_check_range) k2 b2 .nil (passes_call (takes_of rfl rfl rfl rfl) (fun _ _ _ _ z => z)) (pa_cons (pv 1) (pa_cons pe_int (pa_cons (pe_op op_sub (pe_call F3 (hr.mono (by decide)) rfl (T.g T.r.n_count_masks) k3 b3 .nil pass0 (pa_cons (pe_fld (pv 0) rfl) pa_nil)) pe_int) pa_nil)))))
      (pss_one (ps_ret (pe_call F1 hr rfl (T.g T.r.n_find_best_tour) k1 b1 .nil pass0 (pa_cons (pe_fld (pv 0) rfl) (pa_cons (pe_call F4 (hr.mono (by decide)) rfl (T.g T.r.n_find_members) k4 b4 .nil pass0 (pa_cons (pv 1) pa_nil)) pa_nil))))), ?_⟩
    obtain ⟨wa, l, ws, ps, mask, rfl, hw, k1, k2⟩ := h
    obtain ⟨dw, hd⟩ := hw.obj
    have h6 := hw.most
    refine ⟨_, rfl, _, rfl, wa, _, dw, _, _, rfl, hd, T.r.c_Wall.cl, T.r.a_Wall_machines, wlF_get, l, ws, rfl, hw.fl.fleet, h6, _, _, rfl, rfl, mask, 0, _, rfl, fun c => ?_, fun c => k1 ?_⟩
    · have cn : ¬ (mask < 0 ∨ ((2 ^ ws.length : Nat) : Int) ≤ mask) := by
        generalize ((2 ^ ws.length : Nat) : Int) = N at c ⊢
        omega
      have k2 := k2 cn
      obtain ⟨m, rfl⟩ := Int.eq_ofNat_of_zero_le c.1
      have hm : m < 2 ^ ws.length := by
        generalize 2 ^ ws.length = N at cn ⊢
        omega
      refine ⟨_, rfl, wa, _, dw, _, _, rfl, hd, T.r.c_Wall.cl, T.r.a_Wall_machines, wlF_get, _, rfl, ws.length, m, rfl, h6, hm, fun H1 g S1 ng eg => ?_⟩
      exact ⟨l, g, ws, SrCommon.maskMembers ws.length m, rfl, hw.fl.fleet.same S1, .of eg, Tw.mem_mask h6 hm, Tw.mask_lt, fun H2 r S2 nr er => k2 H2 r (S1.trans S2) (S1.free nr) er⟩
    · generalize ((2 ^ ws.length : Nat) : Int) = N at c ⊢
      omega
theorem at_wbestof (T : Txt K mg a) : Meth K a.c_Wall "best_tour_of" a.f_Wall_best_tour_of := by
  obtain ⟨fd, F⟩ := T.r.d_Wall_best_tour_of
  exact meth_mk T.r.m_Wall_best_tour_of T.r.y_Wall_best_tour_of F
/-! ### check_schedule(self, cycle, tour, starts); slots: self, cycle, tour, starts, time -/
def spWFeas (a : Ad) (K : PySem.W.Frag) : Sp := fun vs H Q E => ∃ (wa l t u : Addr) (ws : Sr120.Workshop) (ps : List Addr) (c : Int) (tour starts : List Int), vs = [.ref wa, .int c, .ref t, .ref u] ∧ WallAt a H wa l ws ps ∧ SqL K H t (intv tour) ∧ H u = some (.lst (intv starts)) ∧ tour.length ≤ 100 ∧ starts.length ≤ 100 ∧
  ((Sr120.isTour ws tour = false ∨ starts.length ≠ tour.length ∨ starts.all Sr120.isScheduleTime = false ∨ Sr120.isScheduleTime c = false) → Bad a.c_BadParameter (-22) H E) ∧
  (¬ (Sr120.isTour ws tour = false ∨ starts.length ≠ tour.length ∨ starts.all Sr120.isScheduleTime = false ∨ Sr120.isScheduleTime c = false) → ∀ H', Same H H' → Q (.bl (Sr120.isFeasible ws (SrCommon.intsToNats tour) (SrCommon.intsToNats starts) c.toNat)) H')
theorem sc_wfeas : FnScope ["self", "cycle", "tour", "starts", "time"] ["self", "cycle", "tour", "starts"] (defScope s_Wall_check_schedule) := ⟨rfl, rfl, rfl, by decide +kernel, rfl, by decide +kernel, by decide +kernel⟩
theorem ok_wfeas (T : Txt K mg a) : Kept P w K mg base (L2.CX P w) 5 a.f_Wall_check_schedule ["self", "cycle", "tour", "starts"] (spWFeas a K) := by
  obtain ⟨fd, F⟩ := T.r.d_Wall_check_schedule
  obtain ⟨f1, F1, b1, k1⟩ := (ok_feas (P := P) (w := w) (base := base) T).ex
  obtain ⟨f2, F2, b2, k2⟩ := (ok_tour (P := P) (w := w) (base := base) T).ex
  obtain ⟨f3, F3, b3, k3⟩ := (ok_range (P := P) (w := w) (base := base) T).ex
  obtain ⟨f4, F4, b4, k4⟩ := (ok_BadParameter (P := P) (w := w) (base := base) T).ex
  refine ⟨fd, F.okX sc_wfeas (fun vs H Q E h => ?_) (fun cdv A outer s H vs Q E hr h => ?_), F.binds fun _ _ _ _ _ _ us hl => match us, hl with | [_, _, _, _], _ => rfl, F.kp⟩
  · obtain ⟨wa, l, t, u, ws, ps, c, tour, starts, rfl, _⟩ := h
    rfl
  · refine ⟨_, pss_cons (ps_expr (pe_meth (pv 0) T.r.c_Wall.cl (at_tour T) F2 (hr.mono (by decide)) b2 .nil (passes_call (takes_of rfl rfl rfl rfl) (fun _ _ _ _ z => z)) (pa_cons (pv 2) pa_nil)))
      (pss_cons (ps_if (pt_cmpR op_ne (pe_callB call_len_seq (by rfl) (T.z T.r.z_len) PySem.boot_len (pa_cons (pv 3) pa_nil)) (pe_callB call_len_seq (by rfl) (T.z T.r.z_len) PySem.boot_len (pa_cons (pv 2) pa_nil)) (nomark _))
        (pss_one (ps_raise rfl (takes_of rfl rfl rfl rfl) (pmk_err0 T.r.e_BadParameter.er T.r.m_BadParameter_init T.r.y_BadParameter_init F4 (hr.mono (by decide)) b4 pass0 rfl (T.g T.r.n_BadParameter)))) pss_nil)
      (pss_cons (ps_for (passes_of rfl) rfl (pi_list (pe_op op_cat (pe_lst (pa_cons (pv 1) pa_nil)) (pv 3))) (pg_name (i := 4) sc_wfeas.nd rfl (.inl rfl))
        (pss_one (ps_expr (pe_call F3 (hr.mono (by decide)) rfl (T.g T.r.n_check_range) k3 b3 .nil (passes_call (takes_of rfl rfl rfl rfl) (fun _ _ _ _ z => z)) (pa_cons (pv 4) (pa_cons pe_int (pa_cons (pe_mod (T.int T.r.v_MOST_SCHEDULE_TIME)) pa_nil)))))))
      (pss_one (ps_ret (pe_call F1 hr rfl (T.g T.r.n_is_feasible) k1 b1 .nil pass0 (pa_cons (pe_fld (pv 0) rfl) (pa_cons (pv 1) (pa_cons (pv 2) (pa_cons (pv 3) pa_nil))))))))), ?_⟩
    obtain ⟨wa, l, t, u, ws, ps, c, tour, starts, rfl, hw, ht, hu, hlen, hlen2, k1, k2⟩ := h
    obtain ⟨dw, hd⟩ := hw.obj
    refine ⟨_, rfl, wa, dw, _, rfl, hd, wlF_no (by decide +kernel), _, rfl, wa, l, t, ws, ps, tour, rfl, hw, ht, hlen, fun q1 H1 S1 => ?_, fun q => k1 (.inl q)⟩
    refine ⟨_, rfl, u, _, rfl, .inl (.of (S1 _ _ hu)), _, rfl, t, _, rfl, .inl (S1.seq ht), rfl, _, rfl, ?_⟩
    rw [intv_len, intv_len, ne_bool]
    refine ite2 (fun q2 => ?_) (fun q2 => ?_)
    · have q2 : starts.length ≠ tour.length := bne_iff_ne.mp q2
      exact err_raise T.r.e_BadParameter.er T.r.g_BadParameter ((k1 (.inr (.inl q2))).mono S1)
    · have q2 : starts.length = tour.length := Classical.not_not.mp fun z => q2 (bne_iff_ne.mpr z)
      refine ⟨_, rfl, (by show 1 ≤ sizeLine; decide), fun p1 n1 => ?_⟩
      have S2 := S1.trans (same_new (o := HO.lst [V.int c]) n1)
      refine ⟨_, rfl, p1, u, _, _, rfl, rfl, upd_same, S2 _ _ hu, ?_, fun p2 n2 => ?_⟩
      · rw [intv_len]
        show 1 + _ ≤ sizeLine
        exact Nat.le_trans (by omega : _ ≤ 101) (by decide)
      · have S3 := S2.trans (same_new (o := HO.lst ([V.int c] ++ intv starts)) n2)
        refine ⟨p2, rfl, ⟨_, .of upd_same⟩, for_list (xs := intv (c :: starts)) (fun k σ H' => H' = upd (upd H1 p1 (.lst [V.int c])) p2 (.lst ([V.int c] ++ intv starts)) ∧ (∃ v4, σ = [some (.ref wa), some (.int c), some (.ref t), some (.ref u), v4]) ∧ ∀ j z, j < k → (c :: starts)[j]? = some z → 0 ≤ z ∧ z ≤ 9999)
          ⟨rfl, ⟨_, rfl⟩, fun j z h => absurd h (Nat.not_lt_zero _)⟩ ?_ ?_ ?_⟩
        · rintro k σ H' _ ⟨rfl, _, _⟩
          exact .of upd_same
        · rintro k x σ H' hx ⟨rfl, ⟨v4, rfl⟩, hq⟩
          have hk : k < (c :: starts).length := by
            have := (List.getElem?_eq_some_iff.mp hx).1
            rw [intv_len] at this
            exact this
          have e0 : (c :: starts)[k]? = some (c :: starts)[k] := List.getElem?_eq_getElem hk
          rw [intv_at e0] at hx
          cases hx
          refine ⟨_, rfl, _, 0, 9999, rfl, fun q3 => ⟨rfl, ⟨_, rfl⟩, fun j z hj hz => ?_⟩, fun q3 => (k1 ?_).mono S3⟩
          · by_cases e : j = k
            · subst e
              rw [e0] at hz
              cases hz
              exact q3
            · exact hq j z (by omega) hz
          · have hz := List.getElem_mem hk
            rcases List.mem_cons.mp hz with e | e
            · refine .inr (.inr (.inr (Tw.false_of Tw.isSched_iff ?_)))
              rw [← e]
              exact q3
            · refine .inr (.inr (.inl ?_))
              rw [Bool.eq_false_iff]
              intro h
              rw [List.all_eq_true] at h
              exact q3 (Tw.isSched_iff.mp (h _ e))
        · rintro σ H' ⟨rfl, ⟨v4, rfl⟩, hq⟩
          have hall : ∀ z ∈ c :: starts, 0 ≤ z ∧ z ≤ 9999 := fun z hz => by
            obtain ⟨j, hj⟩ := List.getElem?_of_mem hz
            refine hq j z ?_ hj
            have := (List.getElem?_eq_some_iff.mp hj).1
            rw [intv_len]
            exact this
          have hc := hall c List.mem_cons_self
          have hs : ∀ z ∈ starts, 0 ≤ z ∧ z ≤ 9999 := fun z hz => hall z (List.mem_cons_of_mem _ hz)
          obtain ⟨e1, e2, e3⟩ := tour_nats q1
          have k2 := k2 fun z => by
            rcases z with z | z | z | z
            · rw [q1] at z
              cases z
            · exact z q2
            · rw [Bool.eq_false_iff] at z
              exact z (List.all_eq_true.mpr fun x hx => Tw.isSched_iff.mpr (hs x hx))
            · rw [Tw.isSched_iff.mpr hc] at z
              cases z
          obtain ⟨n, rfl⟩ := Int.eq_ofNat_of_zero_le hc.1
          have e4 := intv_nats fun z hz => (hs z hz).1
          refine ⟨_, rfl, wa, _, dw, _, _, rfl, S3 _ _ hd, T.r.c_Wall.cl, T.r.a_Wall_machines, wlF_get, _, rfl, _, rfl, _, rfl, l, t, u, ws, SrCommon.intsToNats tour, SrCommon.intsToNats starts, n, rfl, hw.fl.fleet.same S3, by rw [← e1]; exact S3.seq ht, by rw [← e4]; exact .of (S3 _ _ hu), e2, by omega, ?_, fun H4 S4 => k2 H4 (S3.trans S4)⟩
          rw [e3]
          show (List.map _ _).length = _
          rw [List.length_map, q2]
theorem at_wfeas (T : Txt K mg a) : Meth K a.c_Wall "check_schedule" a.f_Wall_check_schedule := by
  obtain ⟨fd, F⟩ := T.r.d_Wall_check_schedule
  exact meth_mk T.r.m_Wall_check_schedule T.r.y_Wall_check_schedule F
/-! ### min_cycle_time_if(self, i, run_time); slots: self, i, run_time, machine, changed, machines -/
def spWIf (a : Ad) : Sp := fun vs H Q E => ∃ (wa l : Addr) (ws : Sr120.Workshop) (ps : List Addr) (i x : Int), vs = [.ref wa, .int i, .int x] ∧ WallAt a H wa l ws ps ∧ (Sr120.isMachine ws i = false → Bad a.c_NoSuchMachine (-2) H E) ∧ (Sr120.isMachine ws i = true → Sr120.isLength x = false → Bad a.c_BadParameter (-22) H E) ∧
  (Sr120.isMachine ws i = true → Sr120.isLength x = true → ∀ H', Same H H' → Q (.int (Sr120.minCycleTime (Sr120.withRunTime ws i.toNat x.toNat) (Sr120.allMachines (Sr120.withRunTime ws i.toNat x.toNat)) : Nat)) H')
theorem sc_wif : FnScope ["self", "i", "run_time", "machine", "changed", "machines"] ["self", "i", "run_time"] (defScope s_Wall_min_cycle_time_if) := ⟨rfl, rfl, rfl, by decide +kernel, rfl, by decide +kernel, by decide +kernel⟩
theorem ok_wif (T : Txt K mg a) : Kept P w K mg base (L2.CX P w) 6 a.f_Wall_min_cycle_time_if ["self", "i", "run_time"] (spWIf a) := by
  obtain ⟨fd, F⟩ := T.r.d_Wall_min_cycle_time_if
  obtain ⟨f1, F1, b1, k1⟩ := (ok_crun (P := P) (w := w) (base := base) T).ex
  obtain ⟨f2, F2, b2, k2⟩ := (ok_chk (P := P) (w := w) (base := base) T).ex
  obtain ⟨f3, F3, b3, k3⟩ := (ok_minit (P := P) (w := w) (base := base) T).ex
  obtain ⟨f4, F4, b4, k4⟩ := (ok_mincycle (P := P) (w := w) (base := base) T).ex
  obtain ⟨f5, F5, b5, k5⟩ := (ok_all (P := P) (w := w) (base := base) T).ex
  have MK : Mk K a.c_Machine a.f_Machine_init := ⟨T.r.c_Machine.mks, T.r.m_Machine_init, by unfold PySem.W.isFn; rw [T.r.y_Machine_init]; rfl, T.r.c_Machine.kp⟩
  refine ⟨fd, F.okX sc_wif (fun vs H Q E h => ?_) (fun cdv A outer s H vs Q E hr h => ?_), F.binds fun _ _ _ _ _ _ us hl => match us, hl with | [_, _, _], _ => rfl, F.kp⟩
  · obtain ⟨wa, l, ws, ps, i, x, rfl, _⟩ := h
    rfl
  · refine ⟨_, pss_cons (ps_expr (pe_meth (pv 0) T.r.c_Wall.cl (at_chk T) F2 (hr.mono (by decide)) b2 .nil (passes_call (takes_of rfl rfl rfl rfl) (fun _ _ _ _ z => z)) (pa_cons (pv 1) pa_nil)))
      (pss_cons (ps_expr (pe_call F1 hr rfl (T.g T.r.n_check_run_time) k1 b1 .nil (passes_call (takes_of rfl rfl rfl rfl) (fun _ _ _ _ z => z)) (pa_cons (pv 2) pa_nil)))
      (pss_cons (ps_set (i := 3) sc_wif.nd rfl (.inl rfl) (pe_ix ix_list (pe_fld (pv 0) rfl) (pv 1) (fun _ _ => rfl)))
      (pss_cons (ps_set (i := 4) sc_wif.nd rfl (.inl rfl) (pe_make MK F3 (hr.mono (by decide)) rfl (T.g T.r.n_Machine) b3 .nil pass0 (pa_cons (pe_fld (pv 3) rfl) (pa_cons (pv 2) (pa_cons (pe_fld (pv 3) rfl) pa_nil)))))
      (pss_cons (ps_set (i := 5) sc_wif.nd rfl (.inl rfl) (pe_op op_cat (pe_op op_cat (pe_slice sl_list (pe_fld (pv 0) rfl) po_none (po_some (pv 1))) (pe_lst (pa_cons (pv 4) pa_nil))) (pe_slice sl_list (pe_fld (pv 0) rfl) (po_some (pe_op op_add (pv 1) pe_int)) po_none)))
      (pss_one (ps_ret (pe_call F4 (hr.mono (by decide)) rfl (T.g T.r.n_find_min_cycle_time) k4 b4 .nil pass0 (pa_cons (pv 5) (pa_cons (pe_meth0 (pv 0) T.r.c_Wall.cl (at_all T) F5 (hr.mono (by decide)) b5 .nil pass0) pa_nil))))))))), ?_⟩
    obtain ⟨wa, l, ws, ps, i, x, rfl, hw, k1, k2, k3⟩ := h
    obtain ⟨dw, hd⟩ := hw.obj
    have h6 := hw.most
    refine ⟨_, rfl, wa, dw, _, rfl, hd, wlF_no (by decide +kernel), _, rfl, wa, l, ws, ps, i, rfl, hw, fun c => ?_, k1⟩
    obtain ⟨i0, i1⟩ := Tw.isMachine_iff.mp c
    obtain ⟨n, rfl⟩ := Int.eq_ofNat_of_zero_le i0
    have hn : n < ws.length := by omega
    refine ⟨_, rfl, x, rfl, fun c2 => ?_, fun c2 => k2 c (Tw.false_of Tw.isLength_iff c2)⟩
    have k3 := k3 c (Tw.isLength_iff.mpr c2)
    obtain ⟨y, rfl⟩ := Int.eq_ofNat_of_zero_le (show 0 ≤ x by omega)
    obtain ⟨xs, p, dx, e1, e2, e3⟩ := hw.fl.fleet.at hn
    refine ⟨_, rfl, wa, _, dw, _, _, rfl, hd, T.r.c_Wall.cl, T.r.a_Wall_machines, wlF_get, _, rfl, l, _, _, _, rfl, rfl, .of e1, e2, ?_⟩
    refine ⟨_, rfl, _, _, dx, _, _, rfl, e3, T.r.c_Machine.cl, T.r.a_Machine_position, mF_pos _, _, rfl, _, rfl, _, _, dx, _, _, rfl, e3, T.r.c_Machine.cl, T.r.a_Machine_service_time, mF_ser _, fun q dq nq ndq ne => ⟨q, dq, { Sr120.machineAt ws n with runTime := y }, rfl, upd_same, rfl, ?_⟩⟩
    have S1 : Same H (upd (upd (upd H dq (.own q)) q (.ins a.c_Machine dq [])) q (.ins a.c_Machine dq (mF { Sr120.machineAt ws n with runTime := y }))) := fun b o e => by
      rw [upd_ne (ne_of_none e nq), upd_ne (ne_of_none e nq), upd_ne (ne_of_none e ndq)]
      exact e
    have hq1 : upd (upd (upd H dq (.own q)) q (.ins a.c_Machine dq [])) q (.ins a.c_Machine dq (mF { Sr120.machineAt ws n with runTime := y })) q = some (.ins a.c_Machine dq (mF { Sr120.machineAt ws n with runTime := y })) := upd_same
    generalize upd (upd (upd H dq (.own q)) q (.ins a.c_Machine dq [])) q (.ins a.c_Machine dq (mF { Sr120.machineAt ws n with runTime := y })) = H1 at S1 hq1 ⊢
    have eL : (ps.map V.ref).length = ws.length := by rw [List.length_map, hw.fl.len]
    refine ⟨_, rfl, wa, _, dw, _, _, rfl, S1 _ _ hd, T.r.c_Wall.cl, T.r.a_Wall_machines, wlF_get, _, rfl, _, rfl, l, _, rfl, .of (S1 _ _ hw.fl.lst), fun p1 n1 => ?_⟩
    rw [cutV_take (ps.map V.ref) n]
    have S2 := S1.trans (same_new (o := HO.lst ((ps.map V.ref).take n)) n1)
    refine ⟨_, rfl, (by show 1 ≤ sizeLine; decide), fun p2 n2 => ?_⟩
    have S3 := S2.trans (same_new (o := HO.lst [V.ref q]) n2)
    have l1 : ((ps.map V.ref).take n).length ≤ 6 := by
      have := List.length_take_le' n (ps.map V.ref)
      omega
    have l2 : ((ps.map V.ref).drop (n + 1)).length ≤ 6 := by
      rw [List.length_drop]
      omega
    refine ⟨p1, p2, _, _, rfl, rfl, same_new n2 _ _ upd_same, upd_same, ?_, fun p3 n3 => ?_⟩
    · show _ + 1 ≤ sizeLine
      exact Nat.le_trans (by omega : _ ≤ 7) (by decide)
    · have S4 := S3.trans (same_new (o := HO.lst ((ps.map V.ref).take n ++ [V.ref q])) n3)
      refine ⟨_, rfl, wa, _, dw, _, _, rfl, S4 _ _ hd, T.r.c_Wall.cl, T.r.a_Wall_machines, wlF_get, _, rfl, _, _, rfl, rfl, _, rfl, l, _, rfl, .of (S4 _ _ hw.fl.lst), fun p4 n4 => ?_⟩
      rw [show cutV (ps.map V.ref) (some (((n : Nat) : Int) + 1)) none = (ps.map V.ref).drop (n + 1) from cutV_drop _ (n + 1)]
      have S5 := S4.trans (same_new (o := HO.lst ((ps.map V.ref).drop (n + 1))) n4)
      refine ⟨p3, p4, _, _, rfl, rfl, same_new n4 _ _ upd_same, upd_same, ?_, fun p5 n5 => ?_⟩
      · rw [List.length_append]
        show _ + 1 + _ ≤ sizeLine
        exact Nat.le_trans (by omega : _ ≤ 13) (by decide)
      · have S6 := S5.trans (same_new (o := HO.lst ((ps.map V.ref).take n ++ [V.ref q] ++ (ps.map V.ref).drop (n + 1))) n5)
        have hq6 := same_new (o := HO.lst ((ps.map V.ref).take n ++ [V.ref q] ++ (ps.map V.ref).drop (n + 1))) n5 _ _ (same_new (o := HO.lst ((ps.map V.ref).drop (n + 1))) n4 _ _ (same_new (o := HO.lst ((ps.map V.ref).take n ++ [V.ref q])) n3 _ _ (same_new (o := HO.lst [V.ref q]) n2 _ _ (same_new (o := HO.lst ((ps.map V.ref).take n)) n1 _ _ hq1))))
        refine ⟨_, rfl, _, rfl, wa, dw, _, rfl, S6 _ _ hd, wlF_no (by decide +kernel), wa, l, ws, ps, rfl, hw.same S6, fun H7 r S7 _ e7 => ?_⟩
        have fl := hw.fl.swap (r := y) hn (S6.trans S7) (S7 _ _ hq6) (S7 _ _ upd_same)
        refine ⟨p5, r, Sr120.withRunTime ws n y, Sr120.allMachines ws, rfl, fl, .of e7, fun i hi => by rw [Tw.if_len]; exact Tw.all_lt i hi, by rw [Tw.all_len]; omega, fun H8 S8 => ?_⟩
        refine qint (Q := Q) ?_ (k3 H8 ((S6.trans S7).trans S8))
        show _ = ((Sr120.minCycleTime (Sr120.withRunTime ws n y) (Sr120.allMachines (Sr120.withRunTime ws n y)) : Nat) : Int)
        rw [Tw.if_all]
        exact congrArg Nat.cast (Tw.min_closed _ _ List.nodup_range).symm
theorem at_wif (T : Txt K mg a) : Meth K a.c_Wall "min_cycle_time_if" a.f_Wall_min_cycle_time_if := by
  obtain ⟨fd, F⟩ := T.r.d_Wall_min_cycle_time_if
  exact meth_mk T.r.m_Wall_min_cycle_time_if T.r.y_Wall_min_cycle_time_if F
end
end Tp

set_option maxRecDepth 100000
set_option maxHeartbeats 4000000
namespace Tw
open Sr120 SrCommon
theorem best_perm (w : Workshop) (s : List Nat) (nd : s.Nodup) : (bestTour w s).Perm s := by
  obtain ⟨l1, t, l2, e, q1, q2⟩ := split_first (fun t => decide (cycleTime w t ≤ closed w s)) (permutations s.length s) (wallOrder w s)
    (perm_perms _ s _ nd (Nat.le_refl _) (order_perm w s)) (decide_eq_true (Nat.le_of_eq (order_cycle w s)))
  rw [(best_first w s t nd l1 l2 e (fun x hx => by have := of_decide_eq_false (q1 x hx); omega) (of_decide_eq_true q2)).1]
  exact perms_perm _ s t nd (Nat.le_refl _) (by rw [e]; simp)
end Tw
namespace Tp
open PySem PySem.Spec PyProof.Rows L2 TwX TwY
structure ErrK (K : PySem.W.Frag) (a : Ad) (C : Addr) : Prop where
  sub : PySem.W.exmOne K (.ref C) (.ref a.c_Refusal) = some true
  xf : XfC K C
  no : PySem.W.findIn K (.ref C) "code" = some none
/-- what a call is given -/
structure GivenAt (H : Hp) (g : Addr) (xs : List Int) (rows : List (List Int)) : Prop where
  ex : ∃ rs : List Addr, H g = some (.lst (intv xs ++ rs.map V.ref)) ∧ rs.length = rows.length ∧ ∀ (i : Nat) (r : Addr) (row : List Int), rs[i]? = some r → rows[i]? = some row → H r = some (.lst (intv row))
theorem GivenAt.nums {H : Hp} {g : Addr} {xs : List Int} (h : GivenAt H g xs []) : H g = some (.lst (intv xs)) := by
  obtain ⟨rs, e1, e2, _⟩ := h.ex
  rw [List.length_eq_zero_iff.mp e2] at e1
  rw [e1, List.map_nil, List.append_nil]
theorem GivenAt.row {H : Hp} {g : Addr} {xs row : List Int} (h : GivenAt H g xs [row]) : ∃ r, H g = some (.lst (intv xs ++ [.ref r])) ∧ H r = some (.lst (intv row)) := by
  obtain ⟨rs, e1, e2, e3⟩ := h.ex
  match rs, e2 with
  | [r], _ => exact ⟨r, e1, e3 0 r row rfl rfl⟩
theorem nats_intv (l : List Nat) : nats l = intv (SrCommon.natsToInts l) := (List.map_map).symm
/-- what each call's def promises -/
def spAns (a : Ad) (K : PySem.W.Frag) (xs : List Int) (rows : List (List Int)) (call : Sr120.Call) : Sp := fun vs H Q E => ∃ (wa l g : Addr) (ws : Sr120.Workshop) (ps : List Addr), vs = [.ref wa, .ref g] ∧ WallAt a H wa l ws ps ∧ GivenAt H g xs rows ∧
  (∀ H' r ps', Wfrm l H H' → WallAt a H' wa l ((Sr120.perform ws call).1.getD ws) ps' → H r = none → H' r = some (.lst (intv ((Sr120.perform ws call).2.code :: (Sr120.perform ws call).2.values))) → Q (.ref r) H') ∧
  (∀ C n d H', ErrK K a C → Same H H' → H' d = some (.xd [("code", .int n)]) → Sr120.perform ws call = (none, .ofCode n) → E (.ref C) (some d) H')
section
variable {P : Program} {w : World} {K : PySem.W.Frag} {mg : Str → Option Value} {base : Heap} {a : Ad}
theorem erBP (T : Txt K mg a) : ErrK K a a.c_BadParameter := ⟨T.r.x_BadParameter, T.r.e_BadParameter.xf, T.r.g_BadParameter⟩
theorem erNM (T : Txt K mg a) : ErrK K a a.c_NoSuchMachine := ⟨T.r.x_NoSuchMachine, T.r.e_NoSuchMachine.xf, T.r.g_NoSuchMachine⟩
theorem erTM (T : Txt K mg a) : ErrK K a a.c_TooManyMachines := ⟨T.r.x_TooManyMachines, T.r.e_TooManyMachines.xf, T.r.g_TooManyMachines⟩
theorem erNI (T : Txt K mg a) : ErrK K a a.c_NoInstance := ⟨T.r.x_NoInstance, T.r.e_NoInstance.xf, T.r.g_NoInstance⟩
theorem sc_acreate : FnScope ["wall", "given"] ["wall", "given"] (defScope s_answer_create) := ⟨rfl, rfl, rfl, by decide +kernel, rfl, by decide +kernel, by decide +kernel⟩
theorem ok_acreate (T : Txt K mg a) : Kept P w K mg base (L2.CX P w) 1 a.f_answer_create ["wall", "given"] (spAns a K [] [] .create) := by
  obtain ⟨fd, F⟩ := T.r.d_answer_create
  refine ⟨fd, F.okX sc_acreate (fun vs H Q E h => ?_) (fun cdv A outer s H vs Q E hr h => ?_), F.binds fun _ _ _ _ _ _ us hl => match us, hl with | [_, _], _ => rfl, F.kp⟩
  · obtain ⟨wa, l, g, ws, ps, rfl, _⟩ := h
    rfl
  · refine ⟨_, pss_one (ps_ret (pe_lst (pa_cons pe_int pa_nil))), ?_⟩
    obtain ⟨wa, l, g, ws, ps, rfl, hw, hg, kQ, kE⟩ := h
    exact ⟨(by show 1 ≤ sizeLine; decide), fun r nr => kQ _ r ps (.of (same_new nr)) (hw.same (same_new nr)) nr upd_same⟩
theorem sc_aadd_machine : FnScope ["wall", "given"] ["wall", "given"] (defScope s_answer_add_machine) := ⟨rfl, rfl, rfl, by decide +kernel, rfl, by decide +kernel, by decide +kernel⟩
theorem ok_aadd_machine (T : Txt K mg a) (x y z : Int) : Kept P w K mg base (L2.CX P w) 7 a.f_answer_add_machine ["wall", "given"] (spAns a K [x, y, z] [] (.addMachine x y z)) := by
  obtain ⟨fd, F⟩ := T.r.d_answer_add_machine
  obtain ⟨f1, Ff1, bf1, kf1⟩ := (ok_add (P := P) (w := w) (base := base) T).ex
  refine ⟨fd, F.okX sc_aadd_machine (fun vs H Q E h => ?_) (fun cdv A outer s H vs Q E hr h => ?_), F.binds fun _ _ _ _ _ _ us hl => match us, hl with | [_, _], _ => rfl, F.kp⟩
  · obtain ⟨wa, l, g, ws, ps, rfl, _⟩ := h
    rfl
  · refine ⟨_, pss_one (ps_ret (pe_lst (pa_cons (pe_meth (pv 0) T.r.c_Wall.cl (at_add T) Ff1 hr bf1 .nil (passes_call (takes_of rfl rfl rfl rfl) (fun _ _ _ _ z => z)) (pa_cons (pe_ix ix_list (pv 1) pe_int (fun _ _ => rfl)) (pa_cons (pe_ix ix_list (pv 1) pe_int (fun _ _ => rfl)) (pa_cons (pe_ix ix_list (pv 1) pe_int (fun _ _ => rfl)) pa_nil)))) pa_nil))), ?_⟩
    obtain ⟨wa, l, g, ws, ps, rfl, hw, hg, kQ, kE⟩ := h
    have hg := hg.nums
    obtain ⟨dw, hd⟩ := hw.obj
    refine ⟨_, rfl, wa, dw, _, rfl, hd, wlF_no (by decide +kernel), _, rfl, g, _, _, _, rfl, rfl, .of hg, (show atI _ ((0 : Nat) : Int) = _ from atI_nat rfl), _, rfl, g, _, _, _, rfl, rfl, .of hg, (show atI _ ((1 : Nat) : Int) = _ from atI_nat rfl), _, rfl, g, _, _, _, rfl, rfl, .of hg, (show atI _ ((2 : Nat) : Int) = _ from atI_nat rfl), wa, l, ws, ps, x, y, z, rfl, hw, fun c d H' s e => ?_, fun c c2 d H' s e => ?_, fun c c2 H' ps' fr hw' => ?_⟩
    · exact kE _ _ d H' (erBP T) s e (if_pos c)
    · exact kE _ _ d H' (erTM T) s e ((if_neg c).trans (if_pos c2))
    · have hp : Sr120.perform ws (.addMachine x y z) = (some (ws ++ [⟨x.toNat, y.toNat, z.toNat⟩]), Sr120.countResult ws.length) := (if_neg c).trans (if_neg c2)
      rw [hp] at kQ
      exact ⟨(by show 1 ≤ sizeLine; decide), fun r nr => kQ _ r ps' (fr.trans (.of (same_new nr))) (hw'.same (same_new nr)) (fr.free _ nr) upd_same⟩
theorem sc_aremove_machine : FnScope ["wall", "given"] ["wall", "given"] (defScope s_answer_remove_machine) := ⟨rfl, rfl, rfl, by decide +kernel, rfl, by decide +kernel, by decide +kernel⟩
theorem ok_aremove_machine (T : Txt K mg a) (x : Int) : Kept P w K mg base (L2.CX P w) 7 a.f_answer_remove_machine ["wall", "given"] (spAns a K [x] [] (.removeMachine x)) := by
  obtain ⟨fd, F⟩ := T.r.d_answer_remove_machine
  obtain ⟨f1, Ff1, bf1, kf1⟩ := (ok_remove (P := P) (w := w) (base := base) T).ex
  refine ⟨fd, F.okX sc_aremove_machine (fun vs H Q E h => ?_) (fun cdv A outer s H vs Q E hr h => ?_), F.binds fun _ _ _ _ _ _ us hl => match us, hl with | [_, _], _ => rfl, F.kp⟩
  · obtain ⟨wa, l, g, ws, ps, rfl, _⟩ := h
    rfl
  · refine ⟨_, pss_one (ps_ret (pe_lst (pa_cons (pe_meth (pv 0) T.r.c_Wall.cl (at_remove T) Ff1 hr bf1 .nil (passes_call (takes_of rfl rfl rfl rfl) (fun _ _ _ _ z => z)) (pa_cons (pe_ix ix_list (pv 1) pe_int (fun _ _ => rfl)) pa_nil)) pa_nil))), ?_⟩
    obtain ⟨wa, l, g, ws, ps, rfl, hw, hg, kQ, kE⟩ := h
    have hg := hg.nums
    obtain ⟨dw, hd⟩ := hw.obj
    refine ⟨_, rfl, wa, dw, _, rfl, hd, wlF_no (by decide +kernel), _, rfl, g, _, _, _, rfl, rfl, .of hg, (show atI _ ((0 : Nat) : Int) = _ from atI_nat rfl), wa, l, ws, ps, x, rfl, hw, fun c d H' s e => ?_, fun c H' ps' fr hw' => ?_⟩
    · exact kE _ _ d H' (erNM T) s e (if_pos c)
    · have hp : Sr120.perform ws (.removeMachine x) = (some (ws.eraseIdx x.toNat), Sr120.countResult (ws.length - 1)) := if_neg (by rw [c]; decide)
      rw [hp] at kQ
      exact ⟨(by show 1 ≤ sizeLine; decide), fun r nr => kQ _ r ps' (fr.trans (.of (same_new nr))) (hw'.same (same_new nr)) (fr.free _ nr) upd_same⟩
theorem sc_aset_position : FnScope ["wall", "given"] ["wall", "given"] (defScope s_answer_set_position) := ⟨rfl, rfl, rfl, by decide +kernel, rfl, by decide +kernel, by decide +kernel⟩
theorem ok_aset_position (T : Txt K mg a) (x y : Int) : Kept P w K mg base (L2.CX P w) 7 a.f_answer_set_position ["wall", "given"] (spAns a K [x, y] [] (.setPosition x y)) := by
  obtain ⟨fd, F⟩ := T.r.d_answer_set_position
  obtain ⟨f1, Ff1, bf1, kf1⟩ := (ok_spos (P := P) (w := w) (base := base) T).ex
  refine ⟨fd, F.okX sc_aset_position (fun vs H Q E h => ?_) (fun cdv A outer s H vs Q E hr h => ?_), F.binds fun _ _ _ _ _ _ us hl => match us, hl with | [_, _], _ => rfl, F.kp⟩
  · obtain ⟨wa, l, g, ws, ps, rfl, _⟩ := h
    rfl
  · refine ⟨_, pss_one (ps_ret (pe_lst (pa_cons (pe_meth (pv 0) T.r.c_Wall.cl (at_spos T) Ff1 hr bf1 .nil (passes_call (takes_of rfl rfl rfl rfl) (fun _ _ _ _ z => z)) (pa_cons (pe_ix ix_list (pv 1) pe_int (fun _ _ => rfl)) (pa_cons (pe_ix ix_list (pv 1) pe_int (fun _ _ => rfl)) pa_nil))) pa_nil))), ?_⟩
    obtain ⟨wa, l, g, ws, ps, rfl, hw, hg, kQ, kE⟩ := h
    have hg := hg.nums
    obtain ⟨dw, hd⟩ := hw.obj
    refine ⟨_, rfl, wa, dw, _, rfl, hd, wlF_no (by decide +kernel), _, rfl, g, _, _, _, rfl, rfl, .of hg, (show atI _ ((0 : Nat) : Int) = _ from atI_nat rfl), _, rfl, g, _, _, _, rfl, rfl, .of hg, (show atI _ ((1 : Nat) : Int) = _ from atI_nat rfl), wa, l, ws, ps, x, y, rfl, hw, fun c d H' s e => ?_, fun c c2 d H' s e => ?_, fun c c2 H' fr hw' => ?_⟩
    · exact kE _ _ d H' (erNM T) s e (if_pos c)
    · exact kE _ _ d H' (erBP T) s e ((if_neg (by rw [c]; decide)).trans (if_pos c2))
    · have hp : Sr120.perform ws (.setPosition x y) = (some (ws.set x.toNat { Sr120.machineAt ws x.toNat with position := y.toNat }), Sr120.countResult (Sr120.machineAt ws x.toNat).position) := (if_neg (by rw [c]; decide)).trans (if_neg (by rw [c2]; decide))
      rw [hp] at kQ
      exact ⟨(by show 1 ≤ sizeLine; decide), fun r nr => kQ _ r ps (fr.trans (.of (same_new nr))) (hw'.same (same_new nr)) (fr.free _ nr) upd_same⟩
theorem sc_aset_run_time : FnScope ["wall", "given"] ["wall", "given"] (defScope s_answer_set_run_time) := ⟨rfl, rfl, rfl, by decide +kernel, rfl, by decide +kernel, by decide +kernel⟩
theorem ok_aset_run_time (T : Txt K mg a) (x y : Int) : Kept P w K mg base (L2.CX P w) 7 a.f_answer_set_run_time ["wall", "given"] (spAns a K [x, y] [] (.setRunTime x y)) := by
  obtain ⟨fd, F⟩ := T.r.d_answer_set_run_time
  obtain ⟨f1, Ff1, bf1, kf1⟩ := (ok_srun (P := P) (w := w) (base := base) T).ex
  refine ⟨fd, F.okX sc_aset_run_time (fun vs H Q E h => ?_) (fun cdv A outer s H vs Q E hr h => ?_), F.binds fun _ _ _ _ _ _ us hl => match us, hl with | [_, _], _ => rfl, F.kp⟩
  · obtain ⟨wa, l, g, ws, ps, rfl, _⟩ := h
    rfl
  · refine ⟨_, pss_one (ps_ret (pe_lst (pa_cons (pe_meth (pv 0) T.r.c_Wall.cl (at_srun T) Ff1 hr bf1 .nil (passes_call (takes_of rfl rfl rfl rfl) (fun _ _ _ _ z => z)) (pa_cons (pe_ix ix_list (pv 1) pe_int (fun _ _ => rfl)) (pa_cons (pe_ix ix_list (pv 1) pe_int (fun _ _ => rfl)) pa_nil))) pa_nil))), ?_⟩
    obtain ⟨wa, l, g, ws, ps, rfl, hw, hg, kQ, kE⟩ := h
    have hg := hg.nums
    obtain ⟨dw, hd⟩ := hw.obj
    refine ⟨_, rfl, wa, dw, _, rfl, hd, wlF_no (by decide +kernel), _, rfl, g, _, _, _, rfl, rfl, .of hg, (show atI _ ((0 : Nat) : Int) = _ from atI_nat rfl), _, rfl, g, _, _, _, rfl, rfl, .of hg, (show atI _ ((1 : Nat) : Int) = _ from atI_nat rfl), wa, l, ws, ps, x, y, rfl, hw, fun c d H' s e => ?_, fun c c2 d H' s e => ?_, fun c c2 H' fr hw' => ?_⟩
    · exact kE _ _ d H' (erNM T) s e (if_pos c)
    · exact kE _ _ d H' (erBP T) s e ((if_neg (by rw [c]; decide)).trans (if_pos c2))
    · have hp : Sr120.perform ws (.setRunTime x y) = (some (ws.set x.toNat { Sr120.machineAt ws x.toNat with runTime := y.toNat }), Sr120.countResult (Sr120.machineAt ws x.toNat).runTime) := (if_neg (by rw [c]; decide)).trans (if_neg (by rw [c2]; decide))
      rw [hp] at kQ
      exact ⟨(by show 1 ≤ sizeLine; decide), fun r nr => kQ _ r ps (fr.trans (.of (same_new nr))) (hw'.same (same_new nr)) (fr.free _ nr) upd_same⟩
theorem sc_aset_service_time : FnScope ["wall", "given"] ["wall", "given"] (defScope s_answer_set_service_time) := ⟨rfl, rfl, rfl, by decide +kernel, rfl, by decide +kernel, by decide +kernel⟩
theorem ok_aset_service_time (T : Txt K mg a) (x y : Int) : Kept P w K mg base (L2.CX P w) 7 a.f_answer_set_service_time ["wall", "given"] (spAns a K [x, y] [] (.setServiceTime x y)) := by
  obtain ⟨fd, F⟩ := T.r.d_answer_set_service_time
  obtain ⟨f1, Ff1, bf1, kf1⟩ := (ok_sser (P := P) (w := w) (base := base) T).ex
  refine ⟨fd, F.okX sc_aset_service_time (fun vs H Q E h => ?_) (fun cdv A outer s H vs Q E hr h => ?_), F.binds fun _ _ _ _ _ _ us hl => match us, hl with | [_, _], _ => rfl, F.kp⟩
  · obtain ⟨wa, l, g, ws, ps, rfl, _⟩ := h
    rfl
  · refine ⟨_, pss_one (ps_ret (pe_lst (pa_cons (pe_meth (pv 0) T.r.c_Wall.cl (at_sser T) Ff1 hr bf1 .nil (passes_call (takes_of rfl rfl rfl rfl) (fun _ _ _ _ z => z)) (pa_cons (pe_ix ix_list (pv 1) pe_int (fun _ _ => rfl)) (pa_cons (pe_ix ix_list (pv 1) pe_int (fun _ _ => rfl)) pa_nil))) pa_nil))), ?_⟩
    obtain ⟨wa, l, g, ws, ps, rfl, hw, hg, kQ, kE⟩ := h
    have hg := hg.nums
    obtain ⟨dw, hd⟩ := hw.obj
    refine ⟨_, rfl, wa, dw, _, rfl, hd, wlF_no (by decide +kernel), _, rfl, g, _, _, _, rfl, rfl, .of hg, (show atI _ ((0 : Nat) : Int) = _ from atI_nat rfl), _, rfl, g, _, _, _, rfl, rfl, .of hg, (show atI _ ((1 : Nat) : Int) = _ from atI_nat rfl), wa, l, ws, ps, x, y, rfl, hw, fun c d H' s e => ?_, fun c c2 d H' s e => ?_, fun c c2 H' fr hw' => ?_⟩
    · exact kE _ _ d H' (erNM T) s e (if_pos c)
    · exact kE _ _ d H' (erBP T) s e ((if_neg (by rw [c]; decide)).trans (if_pos c2))
    · have hp : Sr120.perform ws (.setServiceTime x y) = (some (ws.set x.toNat { Sr120.machineAt ws x.toNat with serviceTime := y.toNat }), Sr120.countResult (Sr120.machineAt ws x.toNat).serviceTime) := (if_neg (by rw [c]; decide)).trans (if_neg (by rw [c2]; decide))
      rw [hp] at kQ
      exact ⟨(by show 1 ≤ sizeLine; decide), fun r nr => kQ _ r ps (fr.trans (.of (same_new nr))) (hw'.same (same_new nr)) (fr.free _ nr) upd_same⟩
theorem sc_amin_cycle_time : FnScope ["wall", "given"] ["wall", "given"] (defScope s_answer_min_cycle_time) := ⟨rfl, rfl, rfl, by decide +kernel, rfl, by decide +kernel, by decide +kernel⟩
theorem ok_amin_cycle_time (T : Txt K mg a) : Kept P w K mg base (L2.CX P w) 5 a.f_answer_min_cycle_time ["wall", "given"] (spAns a K [] [] .minCycleTime) := by
  obtain ⟨fd, F⟩ := T.r.d_answer_min_cycle_time
  obtain ⟨f1, Ff1, bf1, kf1⟩ := (ok_wmin (P := P) (w := w) (base := base) T).ex
  refine ⟨fd, F.okX sc_amin_cycle_time (fun vs H Q E h => ?_) (fun cdv A outer s H vs Q E hr h => ?_), F.binds fun _ _ _ _ _ _ us hl => match us, hl with | [_, _], _ => rfl, F.kp⟩
  · obtain ⟨wa, l, g, ws, ps, rfl, _⟩ := h
    rfl
  · refine ⟨_, pss_one (ps_ret (pe_lst (pa_cons (pe_meth0 (pv 0) T.r.c_Wall.cl (at_wmin T) Ff1 hr bf1 .nil pass0) pa_nil))), ?_⟩
    obtain ⟨wa, l, g, ws, ps, rfl, hw, hg, kQ, kE⟩ := h
    obtain ⟨dw, hd⟩ := hw.obj
    exact ⟨_, rfl, wa, dw, _, rfl, hd, wlF_no (by decide +kernel), wa, l, ws, ps, rfl, hw, fun H1 S1 => ⟨(by show 1 ≤ sizeLine; decide), fun r nr => kQ _ r ps (.of (S1.trans (same_new nr))) (hw.same (S1.trans (same_new nr))) (S1.free nr) upd_same⟩⟩
theorem sc_abest_tour : FnScope ["wall", "given"] ["wall", "given"] (defScope s_answer_best_tour) := ⟨rfl, rfl, rfl, by decide +kernel, rfl, by decide +kernel, by decide +kernel⟩
theorem ok_abest_tour (T : Txt K mg a) : Kept P w K mg base (L2.CX P w) 8 a.f_answer_best_tour ["wall", "given"] (spAns a K [] [] .bestTour) := by
  obtain ⟨fd, F⟩ := T.r.d_answer_best_tour
  obtain ⟨f1, Ff1, bf1, kf1⟩ := (ok_wmin (P := P) (w := w) (base := base) T).ex
  obtain ⟨f2, Ff2, bf2, kf2⟩ := (ok_wbest (P := P) (w := w) (base := base) T).ex
  refine ⟨fd, F.okX sc_abest_tour (fun vs H Q E h => ?_) (fun cdv A outer s H vs Q E hr h => ?_), F.binds fun _ _ _ _ _ _ us hl => match us, hl with | [_, _], _ => rfl, F.kp⟩
  · obtain ⟨wa, l, g, ws, ps, rfl, _⟩ := h
    rfl
  · refine ⟨_, pss_one (ps_ret (pe_op op_cat (pe_lst (pa_cons (pe_meth0 (pv 0) T.r.c_Wall.cl (at_wmin T) Ff1 (hr.mono (by decide)) bf1 .nil pass0) pa_nil)) (pe_meth0 (pv 0) T.r.c_Wall.cl (at_wbest T) Ff2 hr bf2 .nil pass0))), ?_⟩
    obtain ⟨wa, l, g, ws, ps, rfl, hw, hg, kQ, kE⟩ := h
    obtain ⟨dw, hd⟩ := hw.obj
    refine ⟨_, rfl, wa, dw, _, rfl, hd, wlF_no (by decide +kernel), wa, l, ws, ps, rfl, hw, fun H1 S1 => ⟨(by show 1 ≤ sizeLine; decide), fun p np => ?_⟩⟩
    have S2 := S1.trans (same_new (o := HO.lst [V.int (Sr120.minCycleTime ws (Sr120.allMachines ws) : Nat)]) np)
    refine ⟨_, rfl, wa, dw, _, rfl, S2 _ _ hd, wlF_no (by decide +kernel), wa, l, ws, ps, rfl, hw.same S2, fun H3 b S3 nb eb => ⟨p, b, _, _, rfl, rfl, S3 _ _ upd_same, eb, ?_, fun r nr => kQ _ r ps (.of ((S2.trans S3).trans (same_new nr))) (hw.same ((S2.trans S3).trans (same_new nr))) ((S2.trans S3).free nr) (upd_same.trans ?_)⟩⟩
    · have h6 := (Tw.best_perm ws (Sr120.allMachines ws) List.nodup_range).length_eq
      have h7 : (Sr120.allMachines ws).length = ws.length := List.length_range
      have h8 := hw.most
      rw [nats_len, h6, h7]
      show 1 + _ ≤ sizeLine
      exact Nat.le_trans (by omega : _ ≤ 7) (by decide)
    · rw [nats_intv]
      rfl
theorem sc_acycle_time : FnScope ["wall", "given", "tour"] ["wall", "given"] (defScope s_answer_cycle_time) := ⟨rfl, rfl, rfl, by decide +kernel, rfl, by decide +kernel, by decide +kernel⟩
theorem ok_acycle_time (T : Txt K mg a) (row : List Int) (hrow : row.length ≤ 70) : Kept P w K mg base (L2.CX P w) 7 a.f_answer_cycle_time ["wall", "given"] (spAns a K [] [row] (.cycleTime row)) := by
  obtain ⟨fd, F⟩ := T.r.d_answer_cycle_time
  obtain ⟨f1, Ff1, bf1, kf1⟩ := (ok_wcycle (P := P) (w := w) (base := base) T).ex
  obtain ⟨f2, Ff2, bf2, kf2⟩ := (ok_wbusy (P := P) (w := w) (base := base) T).ex
  obtain ⟨f3, Ff3, bf3, kf3⟩ := (ok_wwalk (P := P) (w := w) (base := base) T).ex
  refine ⟨fd, F.okX sc_acycle_time (fun vs H Q E h => ?_) (fun cdv A outer s H vs Q E hr h => ?_), F.binds fun _ _ _ _ _ _ us hl => match us, hl with | [_, _], _ => rfl, F.kp⟩
  · obtain ⟨wa, l, g, ws, ps, rfl, _⟩ := h
    rfl
  · refine ⟨_, pss_cons (ps_set (i := 2) sc_acycle_time.nd rfl (.inl rfl) (pe_ix ix_list (pv 1) pe_int (fun _ _ => rfl))) (pss_one (ps_ret (pe_lst (pa_cons (pe_meth (pv 0) T.r.c_Wall.cl (at_wcycle T) Ff1 hr bf1 .nil (passes_call (takes_of rfl rfl rfl rfl) (fun _ _ _ _ z => z)) (pa_cons (pv 2) pa_nil)) (pa_cons (pe_meth (pv 0) T.r.c_Wall.cl (at_wbusy T) Ff2 (hr.mono (by decide)) bf2 .nil (passes_call (takes_of rfl rfl rfl rfl) (fun _ _ _ _ z => z)) (pa_cons (pv 2) pa_nil)) (pa_cons (pe_meth (pv 0) T.r.c_Wall.cl (at_wwalk T) Ff3 (hr.mono (by decide)) bf3 .nil (passes_call (takes_of rfl rfl rfl rfl) (fun _ _ _ _ z => z)) (pa_cons (pv 2) pa_nil)) pa_nil)))))), ?_⟩
    obtain ⟨wa, l, g, ws, ps, rfl, hw, hg, kQ, kE⟩ := h
    obtain ⟨t, hg, ht⟩ := hg.row
    obtain ⟨dw, hd⟩ := hw.obj
    refine ⟨_, rfl, g, _, _, _, rfl, rfl, .of hg, (show atI _ ((0 : Nat) : Int) = _ from atI_nat rfl), _, rfl, wa, dw, _, rfl, hd, wlF_no (by decide +kernel), _, rfl, wa, l, t, ws, ps, row, rfl, hw, .of ht, by omega, fun c H1 S1 => ?_, fun c d H' s e => kE _ _ d H' (erBP T) s e (congrArg (Prod.mk _) (if_pos c))⟩
    refine ⟨_, rfl, wa, dw, _, rfl, S1 _ _ hd, wlF_no (by decide +kernel), _, rfl, wa, l, t, ws, ps, row, rfl, hw.same S1, .of (S1 _ _ ht), by omega, fun _ H2 S2 => ?_, fun c2 => by rw [c] at c2; cases c2⟩
    refine ⟨_, rfl, wa, dw, _, rfl, S2 _ _ (S1 _ _ hd), wlF_no (by decide +kernel), _, rfl, wa, l, t, ws, ps, row, rfl, hw.same (S1.trans S2), .of (S2 _ _ (S1 _ _ ht)), by omega, fun _ H3 S3 => ?_, fun c2 => by rw [c] at c2; cases c2⟩
    have S := (S1.trans S2).trans S3
    have hp : Sr120.perform ws (.cycleTime row) = (none, ⟨(Sr120.cycleTime ws (SrCommon.intsToNats row) : Int), [(Sr120.busyTime ws (SrCommon.intsToNats row) : Int), (Sr120.walkTime ws (SrCommon.intsToNats row) : Int)]⟩) := congrArg (Prod.mk _) (if_neg (by rw [c]; decide))
    rw [hp] at kQ
    exact ⟨(by show 3 ≤ sizeLine; decide), fun r nr => kQ _ r ps (.of (S.trans (same_new nr))) (hw.same (S.trans (same_new nr))) (S.free nr) upd_same⟩
end
end Tp

set_option maxRecDepth 100000
set_option maxHeartbeats 4000000
namespace Tp
open PySem PySem.Spec PyProof.Rows L2 TwX TwY
theorem GivenAt.rows2 {H : Hp} {g : Addr} {xs r1 r2 : List Int} (h : GivenAt H g xs [r1, r2]) : ∃ t u, H g = some (.lst (intv xs ++ [.ref t, .ref u])) ∧ H t = some (.lst (intv r1)) ∧ H u = some (.lst (intv r2)) := by
  obtain ⟨rs, e1, e2, e3⟩ := h.ex
  match rs, e2 with
  | [t, u], _ => exact ⟨t, u, e1, e3 0 t r1 rfl rfl, e3 1 u r2 rfl rfl⟩
section
variable {P : Program} {w : World} {K : PySem.W.Frag} {mg : Str → Option Value} {base : Heap} {a : Ad}
theorem erNo (T : Txt K mg a) : ErrK K a a.c_NoMachines := ⟨T.r.x_NoMachines, T.r.e_NoMachines.xf, T.r.g_NoMachines⟩
theorem sc_awall_order : FnScope ["wall", "given", "order"] ["wall", "given"] (defScope s_answer_wall_order) := ⟨rfl, rfl, rfl, by decide +kernel, rfl, by decide +kernel, by decide +kernel⟩
theorem ok_awall_order (T : Txt K mg a) : Kept P w K mg base (L2.CX P w) 7 a.f_answer_wall_order ["wall", "given"] (spAns a K [] [] .wallOrder) := by
  obtain ⟨fd, F⟩ := T.r.d_answer_wall_order
  obtain ⟨f1, Ff1, bf1, kf1⟩ := (ok_worder (P := P) (w := w) (base := base) T).ex
  obtain ⟨f2, Ff2, bf2, kf2⟩ := (ok_wcycle (P := P) (w := w) (base := base) T).ex
  refine ⟨fd, F.okX sc_awall_order (fun vs H Q E h => ?_) (fun cdv A outer s H vs Q E hr h => ?_), F.binds fun _ _ _ _ _ _ us hl => match us, hl with | [_, _], _ => rfl, F.kp⟩
  · obtain ⟨wa, l, g, ws, ps, rfl, _⟩ := h
    rfl
  · refine ⟨_, pss_cons (ps_set (i := 2) sc_awall_order.nd rfl (.inl rfl) (pe_meth0 (pv 0) T.r.c_Wall.cl (at_worder T) Ff1 (hr.mono (by decide)) bf1 .nil pass0)) (pss_one (ps_ret (pe_op op_cat (pe_lst (pa_cons (pe_meth (pv 0) T.r.c_Wall.cl (at_wcycle T) Ff2 (hr.mono (by decide)) bf2 .nil (passes_call (takes_of rfl rfl rfl rfl) (fun _ _ _ _ z => z)) (pa_cons (pv 2) pa_nil)) pa_nil)) (pv 2)))), ?_⟩
    obtain ⟨wa, l, g, ws, ps, rfl, hw, hg, kQ, kE⟩ := h
    obtain ⟨dw, hd⟩ := hw.obj
    have h6 := hw.most
    refine ⟨_, rfl, wa, dw, _, rfl, hd, wlF_no (by decide +kernel), wa, l, ws, ps, rfl, hw, fun H1 o S1 no eo => ?_⟩
    rw [nats_intv] at eo
    have hl : (SrCommon.natsToInts (Sr120.wallOrder ws (Sr120.allMachines ws))).length ≤ 6 := by
      have z := (Tw.order_perm ws (Sr120.allMachines ws)).length_eq
      show (List.map _ _).length ≤ 6
      rw [List.length_map, z, Tw.all_len]
      exact h6
    refine ⟨_, rfl, wa, dw, _, rfl, S1 _ _ hd, wlF_no (by decide +kernel), _, rfl, wa, l, o, ws, ps, _, rfl, hw.same S1, .of eo, by omega, fun _ H2 S2 => ?_, fun z => ?_⟩
    · rw [Tw.back_nats]
      refine ⟨(by show 1 ≤ sizeLine; decide), fun p np => ?_⟩
      have S3 := (S1.trans S2).trans (same_new (o := HO.lst [V.int (Sr120.cycleTime ws (Sr120.wallOrder ws (Sr120.allMachines ws)) : Nat)]) np)
      refine ⟨_, rfl, p, o, _, _, rfl, rfl, upd_same, same_new np _ _ (S2 _ _ eo), ?_, fun r nr => kQ _ r ps (.of (S3.trans (same_new nr))) (hw.same (S3.trans (same_new nr))) (S3.free nr) upd_same⟩
      rw [intv_len]
      show 1 + _ ≤ sizeLine
      exact Nat.le_trans (by omega : _ ≤ 7) (by decide)
    · rw [Tw.order_tour ws] at z
      cases z
theorem sc_astart_times : FnScope ["wall", "given", "times"] ["wall", "given"] (defScope s_answer_start_times) := ⟨rfl, rfl, rfl, by decide +kernel, rfl, by decide +kernel, by decide +kernel⟩
theorem ok_astart_times (T : Txt K mg a) (row : List Int) (hrow : row.length ≤ 70) : Kept P w K mg base (L2.CX P w) 6 a.f_answer_start_times ["wall", "given"] (spAns a K [] [row] (.startTimes row)) := by
  obtain ⟨fd, F⟩ := T.r.d_answer_start_times
  obtain ⟨f1, Ff1, bf1, kf1⟩ := (ok_wstarts (P := P) (w := w) (base := base) T).ex
  refine ⟨fd, F.okX sc_astart_times (fun vs H Q E h => ?_) (fun cdv A outer s H vs Q E hr h => ?_), F.binds fun _ _ _ _ _ _ us hl => match us, hl with | [_, _], _ => rfl, F.kp⟩
  · obtain ⟨wa, l, g, ws, ps, rfl, _⟩ := h
    rfl
  · refine ⟨_, pss_cons (ps_set (i := 2) sc_astart_times.nd rfl (.inl rfl) (pe_meth (pv 0) T.r.c_Wall.cl (at_wstarts T) Ff1 (hr.mono (by decide)) bf1 .nil (passes_call (takes_of rfl rfl rfl rfl) (fun _ _ _ _ z => z)) (pa_cons (pe_ix ix_list (pv 1) pe_int (fun _ _ => rfl)) pa_nil))) (pss_one (ps_ret (pe_op op_cat (pe_lst (pa_cons (pe_callB call_len_seq (by rfl) (T.z T.r.z_len) PySem.boot_len (pa_cons (pv 2) pa_nil)) pa_nil)) (pv 2)))), ?_⟩
    obtain ⟨wa, l, g, ws, ps, rfl, hw, hg, kQ, kE⟩ := h
    obtain ⟨dw, hd⟩ := hw.obj
    have h6 := hw.most
    obtain ⟨t, hg, ht⟩ := hg.row
    refine ⟨_, rfl, wa, dw, _, rfl, hd, wlF_no (by decide +kernel), _, rfl, g, _, _, _, rfl, rfl, .of hg, (show atI _ ((0 : Nat) : Int) = _ from atI_nat rfl), wa, l, t, ws, ps, row, rfl, hw, .of ht, by omega, fun c H1 o S1 no eo => ?_, fun c d H' s e => kE _ _ d H' (erBP T) s e (congrArg (Prod.mk _) (if_pos c))⟩
    have hp : Sr120.perform ws (.startTimes row) = (none, ⟨(row.length : Int), SrCommon.natsToInts (Sr120.startTimes ws (SrCommon.intsToNats row))⟩) := congrArg (Prod.mk _) (if_neg (by rw [c]; decide))
    rw [hp] at kQ
    have hl : (Sr120.startTimes ws (SrCommon.intsToNats row)).length = row.length := (Tw.starts_len ws _ 0).trans (List.length_map ..)
    refine ⟨_, rfl, o, _, rfl, .inl (.of eo), (by show 1 ≤ sizeLine; decide), fun p np => ?_⟩
    rw [nats_len, hl]
    have S2 := S1.trans (same_new (o := HO.lst [V.int ((row.length : Nat) : Int)]) np)
    refine ⟨_, rfl, p, o, _, _, rfl, rfl, upd_same, same_new np _ _ eo, ?_, fun r nr => kQ _ r ps (.of (S2.trans (same_new nr))) (hw.same (S2.trans (same_new nr))) (S2.free nr) (upd_same.trans ?_)⟩
    · rw [nats_len, hl]
      show 1 + _ ≤ sizeLine
      exact Nat.le_trans (by omega : _ ≤ 71) (by decide)
    · rw [nats_intv]
      rfl
theorem sc_aidle_time : FnScope ["wall", "given"] ["wall", "given"] (defScope s_answer_idle_time) := ⟨rfl, rfl, rfl, by decide +kernel, rfl, by decide +kernel, by decide +kernel⟩
theorem ok_aidle_time (T : Txt K mg a) (x : Int) : Kept P w K mg base (L2.CX P w) 6 a.f_answer_idle_time ["wall", "given"] (spAns a K [x] [] (.idleTime x)) := by
  obtain ⟨fd, F⟩ := T.r.d_answer_idle_time
  obtain ⟨f1, Ff1, bf1, kf1⟩ := (ok_idle (P := P) (w := w) (base := base) T).ex
  refine ⟨fd, F.okX sc_aidle_time (fun vs H Q E h => ?_) (fun cdv A outer s H vs Q E hr h => ?_), F.binds fun _ _ _ _ _ _ us hl => match us, hl with | [_, _], _ => rfl, F.kp⟩
  · obtain ⟨wa, l, g, ws, ps, rfl, _⟩ := h
    rfl
  · refine ⟨_, pss_one (ps_ret (pe_lst (pa_cons (pe_meth (pv 0) T.r.c_Wall.cl (at_idle T) Ff1 (hr.mono (by decide)) bf1 .nil (passes_call (takes_of rfl rfl rfl rfl) (fun _ _ _ _ z => z)) (pa_cons (pe_ix ix_list (pv 1) pe_int (fun _ _ => rfl)) pa_nil)) pa_nil))), ?_⟩
    obtain ⟨wa, l, g, ws, ps, rfl, hw, hg, kQ, kE⟩ := h
    obtain ⟨dw, hd⟩ := hw.obj
    have h6 := hw.most
    have hg := hg.nums
    refine ⟨_, rfl, wa, dw, _, rfl, hd, wlF_no (by decide +kernel), _, rfl, g, _, _, _, rfl, rfl, .of hg, (show atI _ ((0 : Nat) : Int) = _ from atI_nat rfl), wa, l, ws, ps, x, rfl, hw, fun c H1 S1 => ?_, fun c d H' s e => kE _ _ d H' (erNM T) s e (congrArg (Prod.mk _) (if_pos c))⟩
    have hp : Sr120.perform ws (.idleTime x) = (none, Sr120.countResult (Sr120.minCycleTime ws (Sr120.allMachines ws) - ((Sr120.machineAt ws x.toNat).runTime + (Sr120.machineAt ws x.toNat).serviceTime))) := congrArg (Prod.mk _) (if_neg (by rw [c]; decide))
    rw [hp] at kQ
    exact ⟨(by show 1 ≤ sizeLine; decide), fun r nr => kQ _ r ps (.of (S1.trans (same_new nr))) (hw.same (S1.trans (same_new nr))) (S1.free nr) upd_same⟩
theorem sc_autilization : FnScope ["wall", "given"] ["wall", "given"] (defScope s_answer_utilization) := ⟨rfl, rfl, rfl, by decide +kernel, rfl, by decide +kernel, by decide +kernel⟩
theorem ok_autilization (T : Txt K mg a) : Kept P w K mg base (L2.CX P w) 7 a.f_answer_utilization ["wall", "given"] (spAns a K [] [] .utilization) := by
  obtain ⟨fd, F⟩ := T.r.d_answer_utilization
  obtain ⟨f1, Ff1, bf1, kf1⟩ := (ok_util (P := P) (w := w) (base := base) T).ex
  refine ⟨fd, F.okX sc_autilization (fun vs H Q E h => ?_) (fun cdv A outer s H vs Q E hr h => ?_), F.binds fun _ _ _ _ _ _ us hl => match us, hl with | [_, _], _ => rfl, F.kp⟩
  · obtain ⟨wa, l, g, ws, ps, rfl, _⟩ := h
    rfl
  · refine ⟨_, pss_one (ps_ret (pe_op op_cat (pe_lst (pa_cons pe_int pa_nil)) (pe_meth0 (pv 0) T.r.c_Wall.cl (at_util T) Ff1 (hr.mono (by decide)) bf1 .nil (passes_call (takes_of rfl rfl rfl rfl) (fun _ _ _ _ z => z))))), ?_⟩
    obtain ⟨wa, l, g, ws, ps, rfl, hw, hg, kQ, kE⟩ := h
    obtain ⟨dw, hd⟩ := hw.obj
    have h6 := hw.most
    refine ⟨(by show 1 ≤ sizeLine; decide), fun p np => ?_⟩
    have S1 := same_new (o := HO.lst [V.int 0]) np
    refine ⟨_, rfl, wa, dw, _, rfl, S1 _ _ hd, wlF_no (by decide +kernel), wa, l, ws, ps, rfl, hw.same S1, fun c d H' s e => kE _ _ d H' (erNo T) (S1.trans s) e (congrArg (Prod.mk _) (if_pos c)), fun c H2 o S2 no eo => ?_⟩
    have hp : Sr120.perform ws .utilization = (none, ⟨0, SrFraction.encode (SrFraction.mk (Sr120.busyTime ws (Sr120.wallOrder ws (Sr120.allMachines ws)) : Nat) (Sr120.minCycleTime ws (Sr120.allMachines ws)))⟩) := congrArg (Prod.mk _) (if_neg c)
    rw [hp] at kQ
    have S3 := S1.trans S2
    refine ⟨p, o, _, _, rfl, rfl, S2 _ _ upd_same, eo, ?_, fun r nr => kQ _ r ps (.of (S3.trans (same_new nr))) (hw.same (S3.trans (same_new nr))) (S3.free nr) upd_same⟩
    show 3 ≤ sizeLine
    decide
theorem sc_alargest_group : FnScope ["wall", "given", "members"] ["wall", "given"] (defScope s_answer_largest_group) := ⟨rfl, rfl, rfl, by decide +kernel, rfl, by decide +kernel, by decide +kernel⟩
theorem ok_alargest_group (T : Txt K mg a) (x : Int) : Kept P w K mg base (L2.CX P w) 6 a.f_answer_largest_group ["wall", "given"] (spAns a K [x] [] (.largestGroup x)) := by
  obtain ⟨fd, F⟩ := T.r.d_answer_largest_group
  obtain ⟨f1, Ff1, bf1, kf1⟩ := (ok_wgroup (P := P) (w := w) (base := base) T).ex
  refine ⟨fd, F.okX sc_alargest_group (fun vs H Q E h => ?_) (fun cdv A outer s H vs Q E hr h => ?_), F.binds fun _ _ _ _ _ _ us hl => match us, hl with | [_, _], _ => rfl, F.kp⟩
  · obtain ⟨wa, l, g, ws, ps, rfl, _⟩ := h
    rfl
  · refine ⟨_, pss_cons (ps_set (i := 2) sc_alargest_group.nd rfl (.inl rfl) (pe_meth (pv 0) T.r.c_Wall.cl (at_wgroup T) Ff1 (hr.mono (by decide)) bf1 .nil (passes_call (takes_of rfl rfl rfl rfl) (fun _ _ _ _ z => z)) (pa_cons (pe_ix ix_list (pv 1) pe_int (fun _ _ => rfl)) pa_nil))) (pss_one (ps_ret (pe_op op_cat (pe_lst (pa_cons (pe_callB call_len_seq (by rfl) (T.z T.r.z_len) PySem.boot_len (pa_cons (pv 2) pa_nil)) pa_nil)) (pv 2)))), ?_⟩
    obtain ⟨wa, l, g, ws, ps, rfl, hw, hg, kQ, kE⟩ := h
    obtain ⟨dw, hd⟩ := hw.obj
    have h6 := hw.most
    have hg := hg.nums
    refine ⟨_, rfl, wa, dw, _, rfl, hd, wlF_no (by decide +kernel), _, rfl, g, _, _, _, rfl, rfl, .of hg, (show atI _ ((0 : Nat) : Int) = _ from atI_nat rfl), wa, l, ws, ps, x, rfl, hw, fun c d H' s e => kE _ _ d H' (erBP T) s e (congrArg (Prod.mk _) (if_pos c)), fun c H1 o S1 no eo => ?_⟩
    have hp : Sr120.perform ws (.largestGroup x) = (none, ⟨((Sr120.largestGroup ws x.toNat).length : Int), SrCommon.natsToInts (Sr120.largestGroup ws x.toNat)⟩) := congrArg (Prod.mk _) (if_neg c)
    rw [hp] at kQ
    have hl := Tw.group_len ws x.toNat
    refine ⟨_, rfl, o, _, rfl, .inl (.of eo), (by show 1 ≤ sizeLine; decide), fun p np => ?_⟩
    rw [nats_len]
    have S2 := S1.trans (same_new (o := HO.lst [V.int (((Sr120.largestGroup ws x.toNat).length : Nat) : Int)]) np)
    refine ⟨_, rfl, p, o, _, _, rfl, rfl, upd_same, same_new np _ _ eo, ?_, fun r nr => kQ _ r ps (.of (S2.trans (same_new nr))) (hw.same (S2.trans (same_new nr))) (S2.free nr) (upd_same.trans ?_)⟩
    · rw [nats_len]
      show 1 + _ ≤ sizeLine
      exact Nat.le_trans (by omega : _ ≤ 7) (by decide)
    · rw [nats_intv]
      rfl
theorem sc_abest_tour_of : FnScope ["wall", "given", "tour"] ["wall", "given"] (defScope s_answer_best_tour_of) := ⟨rfl, rfl, rfl, by decide +kernel, rfl, by decide +kernel, by decide +kernel⟩
theorem ok_abest_tour_of (T : Txt K mg a) (x : Int) : Kept P w K mg base (L2.CX P w) 8 a.f_answer_best_tour_of ["wall", "given"] (spAns a K [x] [] (.bestTourOf x)) := by
  obtain ⟨fd, F⟩ := T.r.d_answer_best_tour_of
  obtain ⟨f1, Ff1, bf1, kf1⟩ := (ok_wbestof (P := P) (w := w) (base := base) T).ex
  obtain ⟨f2, Ff2, bf2, kf2⟩ := (ok_wcycle (P := P) (w := w) (base := base) T).ex
  refine ⟨fd, F.okX sc_abest_tour_of (fun vs H Q E h => ?_) (fun cdv A outer s H vs Q E hr h => ?_), F.binds fun _ _ _ _ _ _ us hl => match us, hl with | [_, _], _ => rfl, F.kp⟩
  · obtain ⟨wa, l, g, ws, ps, rfl, _⟩ := h
    rfl
  · refine ⟨_, pss_cons (ps_set (i := 2) sc_abest_tour_of.nd rfl (.inl rfl) (pe_meth (pv 0) T.r.c_Wall.cl (at_wbestof T) Ff1 (hr.mono (by decide)) bf1 .nil (passes_call (takes_of rfl rfl rfl rfl) (fun _ _ _ _ z => z)) (pa_cons (pe_ix ix_list (pv 1) pe_int (fun _ _ => rfl)) pa_nil))) (pss_one (ps_ret (pe_op op_cat (pe_lst (pa_cons (pe_meth (pv 0) T.r.c_Wall.cl (at_wcycle T) Ff2 (hr.mono (by decide)) bf2 .nil (passes_call (takes_of rfl rfl rfl rfl) (fun _ _ _ _ z => z)) (pa_cons (pv 2) pa_nil)) pa_nil)) (pv 2)))), ?_⟩
    obtain ⟨wa, l, g, ws, ps, rfl, hw, hg, kQ, kE⟩ := h
    obtain ⟨dw, hd⟩ := hw.obj
    have h6 := hw.most
    have hg := hg.nums
    refine ⟨_, rfl, wa, dw, _, rfl, hd, wlF_no (by decide +kernel), _, rfl, g, _, _, _, rfl, rfl, .of hg, (show atI _ ((0 : Nat) : Int) = _ from atI_nat rfl), wa, l, ws, ps, x, rfl, hw, fun c d H' s e => kE _ _ d H' (erBP T) s e (congrArg (Prod.mk _) (if_pos c)), fun c H1 o S1 no eo => ?_⟩
    have hp : Sr120.perform ws (.bestTourOf x) = (none, ⟨(Sr120.minCycleTime ws (SrCommon.maskMembers ws.length x.toNat) : Int), SrCommon.natsToInts (Sr120.bestTour ws (SrCommon.maskMembers ws.length x.toNat))⟩) := congrArg (Prod.mk _) (if_neg c)
    rw [hp] at kQ
    rw [nats_intv] at eo
    have bp := Tw.best_perm ws (SrCommon.maskMembers ws.length x.toNat) (Tw.mask_nodup _ _)
    have hl : (SrCommon.natsToInts (Sr120.bestTour ws (SrCommon.maskMembers ws.length x.toNat))).length ≤ 6 := by
      have z := Tw.mask_len ws.length x.toNat
      show (List.map _ _).length ≤ 6
      rw [List.length_map, bp.length_eq]
      omega
    refine ⟨_, rfl, wa, dw, _, rfl, S1 _ _ hd, wlF_no (by decide +kernel), _, rfl, wa, l, o, ws, ps, _, rfl, hw.same S1, .of eo, by omega, fun _ H2 S2 => ?_, fun z => ?_⟩
    · rw [Tw.back_nats]
      refine ⟨(by show 1 ≤ sizeLine; decide), fun p np => ?_⟩
      have S3 := (S1.trans S2).trans (same_new (o := HO.lst [V.int (Sr120.cycleTime ws (Sr120.bestTour ws (SrCommon.maskMembers ws.length x.toNat)) : Nat)]) np)
      refine ⟨_, rfl, p, o, _, _, rfl, rfl, upd_same, same_new np _ _ (S2 _ _ eo), ?_, fun r nr => kQ _ r ps (.of (S3.trans (same_new nr))) (hw.same (S3.trans (same_new nr))) (S3.free nr) upd_same⟩
      rw [intv_len]
      show 1 + _ ≤ sizeLine
      exact Nat.le_trans (by omega : _ ≤ 7) (by decide)
    · rw [Tw.tour_of (bp.nodup_iff.mpr (Tw.mask_nodup _ _)) fun i hi => Tw.mask_lt i (bp.mem_iff.mp hi)] at z
      cases z
theorem sc_acheck_schedule : FnScope ["wall", "given"] ["wall", "given"] (defScope s_answer_check_schedule) := ⟨rfl, rfl, rfl, by decide +kernel, rfl, by decide +kernel, by decide +kernel⟩
theorem ok_acheck_schedule (T : Txt K mg a) (x : Int) (r1 r2 : List Int) (h1 : r1.length ≤ 70) (h2 : r2.length ≤ 70) : Kept P w K mg base (L2.CX P w) 6 a.f_answer_check_schedule ["wall", "given"] (spAns a K [x] [r1, r2] (.checkSchedule x r1 r2)) := by
  obtain ⟨fd, F⟩ := T.r.d_answer_check_schedule
  obtain ⟨f1, Ff1, bf1, kf1⟩ := (ok_wfeas (P := P) (w := w) (base := base) T).ex
  refine ⟨fd, F.okX sc_acheck_schedule (fun vs H Q E h => ?_) (fun cdv A outer s H vs Q E hr h => ?_), F.binds fun _ _ _ _ _ _ us hl => match us, hl with | [_, _], _ => rfl, F.kp⟩
  · obtain ⟨wa, l, g, ws, ps, rfl, _⟩ := h
    rfl
  · refine ⟨_, pss_one (ps_ret (pe_lst (pa_cons (pe_ifExp (pt_val (pe_meth (pv 0) T.r.c_Wall.cl (at_wfeas T) Ff1 (hr.mono (by decide)) bf1 .nil (passes_call (takes_of rfl rfl rfl rfl) (fun _ _ _ _ z => z)) (pa_cons (pe_ix ix_list (pv 1) pe_int (fun _ _ => rfl)) (pa_cons (pe_ix ix_list (pv 1) pe_int (fun _ _ => rfl)) (pa_cons (pe_ix ix_list (pv 1) pe_int (fun _ _ => rfl)) pa_nil))))) pe_int pe_int) pa_nil))), ?_⟩
    obtain ⟨wa, l, g, ws, ps, rfl, hw, hg, kQ, kE⟩ := h
    obtain ⟨dw, hd⟩ := hw.obj
    have h6 := hw.most
    obtain ⟨t, u, hg, ht, hu⟩ := hg.rows2
    refine ⟨_, rfl, wa, dw, _, rfl, hd, wlF_no (by decide +kernel), _, rfl, g, _, _, _, rfl, rfl, .of hg, (show atI _ ((0 : Nat) : Int) = _ from atI_nat rfl), _, rfl, g, _, _, _, rfl, rfl, .of hg, (show atI _ ((1 : Nat) : Int) = _ from atI_nat rfl), _, rfl, g, _, _, _, rfl, rfl, .of hg, (show atI _ ((2 : Nat) : Int) = _ from atI_nat rfl), wa, l, t, u, ws, ps, x, r1, r2, rfl, hw, .of ht, hu, by omega, by omega, fun c d H' s e => kE _ _ d H' (erBP T) s e (congrArg (Prod.mk _) (if_pos c)), fun c H1 S1 => ⟨_, rfl, ?_⟩⟩
    have hp : Sr120.perform ws (.checkSchedule x r1 r2) = (none, .ofCode (SrCommon.boolToInt (Sr120.isFeasible ws (SrCommon.intsToNats r1) (SrCommon.intsToNats r2) x.toNat))) := congrArg (Prod.mk _) (if_neg c)
    rw [hp] at kQ
    cases q : Sr120.isFeasible ws (SrCommon.intsToNats r1) (SrCommon.intsToNats r2) x.toNat with
    | true =>
      rw [q] at kQ
      exact iteT ⟨(by show 1 ≤ sizeLine; decide), fun r nr => kQ _ r ps (.of (S1.trans (same_new nr))) (hw.same (S1.trans (same_new nr))) (S1.free nr) upd_same⟩
    | false =>
      rw [q] at kQ
      exact iteF ⟨(by show 1 ≤ sizeLine; decide), fun r nr => kQ _ r ps (.of (S1.trans (same_new nr))) (hw.same (S1.trans (same_new nr))) (S1.free nr) upd_same⟩
theorem sc_amin_cycle_time_if : FnScope ["wall", "given"] ["wall", "given"] (defScope s_answer_min_cycle_time_if) := ⟨rfl, rfl, rfl, by decide +kernel, rfl, by decide +kernel, by decide +kernel⟩
theorem ok_amin_cycle_time_if (T : Txt K mg a) (x y : Int) : Kept P w K mg base (L2.CX P w) 7 a.f_answer_min_cycle_time_if ["wall", "given"] (spAns a K [x, y] [] (.minCycleTimeIf x y)) := by
  obtain ⟨fd, F⟩ := T.r.d_answer_min_cycle_time_if
  obtain ⟨f1, Ff1, bf1, kf1⟩ := (ok_wif (P := P) (w := w) (base := base) T).ex
  refine ⟨fd, F.okX sc_amin_cycle_time_if (fun vs H Q E h => ?_) (fun cdv A outer s H vs Q E hr h => ?_), F.binds fun _ _ _ _ _ _ us hl => match us, hl with | [_, _], _ => rfl, F.kp⟩
  · obtain ⟨wa, l, g, ws, ps, rfl, _⟩ := h
    rfl
  · refine ⟨_, pss_one (ps_ret (pe_lst (pa_cons (pe_meth (pv 0) T.r.c_Wall.cl (at_wif T) Ff1 (hr.mono (by decide)) bf1 .nil (passes_call (takes_of rfl rfl rfl rfl) (fun _ _ _ _ z => z)) (pa_cons (pe_ix ix_list (pv 1) pe_int (fun _ _ => rfl)) (pa_cons (pe_ix ix_list (pv 1) pe_int (fun _ _ => rfl)) pa_nil))) pa_nil))), ?_⟩
    obtain ⟨wa, l, g, ws, ps, rfl, hw, hg, kQ, kE⟩ := h
    obtain ⟨dw, hd⟩ := hw.obj
    have h6 := hw.most
    have hg := hg.nums
    refine ⟨_, rfl, wa, dw, _, rfl, hd, wlF_no (by decide +kernel), _, rfl, g, _, _, _, rfl, rfl, .of hg, (show atI _ ((0 : Nat) : Int) = _ from atI_nat rfl), _, rfl, g, _, _, _, rfl, rfl, .of hg, (show atI _ ((1 : Nat) : Int) = _ from atI_nat rfl), wa, l, ws, ps, x, y, rfl, hw, fun c d H' s e => kE _ _ d H' (erNM T) s e (congrArg (Prod.mk _) (if_pos c)), fun c c2 d H' s e => kE _ _ d H' (erBP T) s e (congrArg (Prod.mk _) ((if_neg (by rw [c]; decide)).trans (if_pos c2))), fun c c2 H1 S1 => ?_⟩
    have hp : Sr120.perform ws (.minCycleTimeIf x y) = (none, Sr120.countResult (Sr120.minCycleTime (Sr120.withRunTime ws x.toNat y.toNat) (Sr120.allMachines (Sr120.withRunTime ws x.toNat y.toNat)))) := congrArg (Prod.mk _) ((if_neg (by rw [c]; decide)).trans (if_neg (by rw [c2]; decide)))
    rw [hp] at kQ
    exact ⟨(by show 1 ≤ sizeLine; decide), fun r nr => kQ _ r ps (.of (S1.trans (same_new nr))) (hw.same (S1.trans (same_new nr))) (S1.free nr) upd_same⟩
theorem sc_alist_machines : FnScope ["wall", "given", "answer", "machine"] ["wall", "given"] (defScope s_answer_list_machines) := ⟨rfl, rfl, rfl, by decide +kernel, rfl, by decide +kernel, by decide +kernel⟩
theorem ok_alist_machines (T : Txt K mg a) : Kept P w K mg base (L2.CX P w) 1 a.f_answer_list_machines ["wall", "given"] (spAns a K [] [] .listMachines) := by
  obtain ⟨fd, F⟩ := T.r.d_answer_list_machines
  refine ⟨fd, F.okX sc_alist_machines (fun vs H Q E h => ?_) (fun cdv A outer s H vs Q E hr h => ?_), F.binds fun _ _ _ _ _ _ us hl => match us, hl with | [_, _], _ => rfl, F.kp⟩
  · obtain ⟨wa, l, g, ws, ps, rfl, _⟩ := h
    rfl
  · refine ⟨_, pss_cons (ps_set (i := 2) sc_alist_machines.nd rfl (.inl rfl) (pe_lst (pa_cons (pe_callB call_len_seq (by rfl) (T.z T.r.z_len) PySem.boot_len (pa_cons (pe_fld (pv 0) rfl) pa_nil)) pa_nil)))
      (pss_cons (ps_for (passes_of rfl) rfl (pi_list (pe_fld (pv 0) rfl)) (pg_name (i := 3) sc_alist_machines.nd rfl (.inl rfl))
        (pss_one (ps_expr (pe_bm PySem.F.plainAttrs_list PySem.F.slot_list_extend PySem.F.type_list_extend mt_extend (pv 2) (pa_cons (pe_lst (pa_cons (pe_fld (pv 3) rfl) (pa_cons (pe_fld (pv 3) rfl) (pa_cons (pe_fld (pv 3) rfl) pa_nil)))) pa_nil)))))
      (pss_one (ps_ret (pv 2)))), ?_⟩
    obtain ⟨wa, l, g, ws, ps, rfl, hw, hg, kQ, kE⟩ := h
    obtain ⟨dw, hd⟩ := hw.obj
    have h6 := hw.most
    have eL : (ps.map V.ref).length = ws.length := by rw [List.length_map, hw.fl.len]
    refine ⟨_, rfl, wa, _, dw, _, _, rfl, hd, T.r.c_Wall.cl, T.r.a_Wall_machines, wlF_get, l, _, rfl, .inl (.of hw.fl.lst), (by show 1 ≤ sizeLine; decide), fun r nr => ?_⟩
    rw [eL]
    have S1 := same_new (o := HO.lst [V.int ((ws.length : Nat) : Int)]) nr
    refine ⟨_, rfl, wa, _, dw, _, _, rfl, (S1 _ _ hd), T.r.c_Wall.cl, T.r.a_Wall_machines, wlF_get, l, rfl, ⟨_, .of (S1 _ _ hw.fl.lst)⟩, for_list (xs := ps.map V.ref) (fun k σ H' => Same H H' ∧ H' r = some (.lst (intv (((ws.length : Nat) : Int) :: (ws.take k).flatMap Tw.tell))) ∧ ∃ v3, σ = [some (.ref wa), some (.ref g), some (.ref r), v3]) ⟨S1, upd_same, _, rfl⟩ ?_ ?_ ?_⟩
    · rintro k σ H' _ ⟨S, _⟩
      exact .of (S _ _ hw.fl.lst)
    · rintro k x σ H' hx ⟨S, er, v3, rfl⟩
      rw [List.getElem?_map] at hx
      cases hp : ps[k]? with
      | none =>
        rw [hp] at hx
        cases hx
      | some p =>
        rw [hp] at hx
        cases hx
        have hk : k < ws.length := by
          rw [← hw.fl.len]
          exact (List.getElem?_eq_some_iff.mp hp).1
        obtain ⟨dx, e⟩ := hw.fl.mach k p hp
        have e := S _ _ e
        have em : ws[k]? = some (Sr120.machineAt ws k) := by
          unfold Sr120.machineAt
          rw [List.getD_eq_getElem?_getD, List.getElem?_eq_getElem hk]
          rfl
        refine ⟨_, rfl, .inl ⟨rfl, _, .of er⟩, _, rfl, p, _, dx, _, _, rfl, e, T.r.c_Machine.cl, T.r.a_Machine_position, mF_pos _, _, rfl, p, _, dx, _, _, rfl, e, T.r.c_Machine.cl, T.r.a_Machine_run_time, mF_run _, _, rfl, p, _, dx, _, _, rfl, e, T.r.c_Machine.cl, T.r.a_Machine_service_time, mF_ser _, (by show 3 ≤ sizeLine; decide), fun y ny => ?_⟩
        have hry : r ≠ y := ne_of_none er ny
        refine ⟨r, y, _, _, rfl, rfl, (upd_ne hry).trans er, upd_same, ?_, fun b o eb => ?_, ?_, _, rfl⟩
        · rw [intv_len, List.length_cons, Tw.tell_len, List.length_take]
          show _ + 3 ≤ sizeLine
          exact Nat.le_trans (by omega : _ ≤ 22) (by decide)
        · rw [upd_ne (ne_of_none eb nr), upd_ne (ne_of_none (S _ _ eb) ny)]
          exact S _ _ eb
        · rw [upd_same, Tw.tell_succ em]
          unfold intv
          rw [List.map_cons, List.map_cons, List.map_append]
          rfl
    · rintro σ H' ⟨S, er, v3, rfl⟩
      rw [eL, List.take_length] at er
      exact ⟨_, rfl, kQ H' r ps (.of S) (hw.same S) nr er⟩
end
end Tp

set_option maxRecDepth 100000
set_option maxHeartbeats 4000000
namespace Tp
open PySem PySem.Spec PyProof.Rows L2 TwX TwY
/-- the numbers handed in, which nothing can change -/
def Lk (K : PySem.W.Frag) (H : Hp) (c : Addr) (l : List Int) : Prop := (∃ o, H c = some (.frz o (.lst (intv l)))) ∨ ∀ H', SqL K H' c (intv l)
theorem Lk.sq {K : PySem.W.Frag} {H : Hp} {c : Addr} {l : List Int} (h : Lk K H c l) : SqL K H c (intv l) := by
  rcases h with ⟨o, h⟩ | h
  · exact .inl (.inr ⟨o, h⟩)
  · exact h H
theorem Lk.frm {K : PySem.W.Frag} {bad : Addr → HO → Prop} {H H' : Hp} {c : Addr} {l : List Int} (h : Lk K H c l) (f : Frm bad H H') (n : ∀ o, H c = some (.frz o (.lst (intv l))) → ¬ bad c (.frz o (.lst (intv l)))) : Lk K H' c l := by
  rcases h with ⟨o, h⟩ | h
  · exact .inl ⟨o, f _ _ h (n o h)⟩
  · exact .inr h
theorem Lk.same {K : PySem.W.Frag} {H H' : Hp} {c : Addr} {l : List Int} (h : Lk K H c l) (s : Same H H') : Lk K H' c l := by
  rcases h with ⟨o, h⟩ | h
  · exact .inl ⟨o, s _ _ h⟩
  · exact .inr h
theorem Lk.upd {K : PySem.W.Frag} {H : Hp} {c p : Addr} {l : List Int} {x y : HO} (h : Lk K H c l) (hp : H p = some x) (n : ∀ o u, x ≠ .frz o u) : Lk K (upd H p y) c l := by
  rcases h with ⟨o, h⟩ | h
  · exact .inl ⟨o, by rw [upd_ne (ne_kind h hp (fun z => n _ _ z.symm))]; exact h⟩
  · exact .inr h
/-- what a step of the reader leaves -/
structure Rfrm (rd : Addr) (H H' : Hp) : Prop where
  stay : ∀ b o, H b = some o → b ≠ rd → H' b = some o
  free : ∀ b, H' b = none → H b = none
theorem Rfrm.refl (rd : Addr) (H : Hp) : Rfrm rd H H := ⟨fun _ _ e _ => e, fun _ e => e⟩
theorem Rfrm.trans {rd : Addr} {H H1 H2 : Hp} (h1 : Rfrm rd H H1) (h2 : Rfrm rd H1 H2) : Rfrm rd H H2 := ⟨fun b o e n => h2.stay b o (h1.stay b o e n) n, fun b h => h1.free b (h2.free b h)⟩
theorem Rfrm.new {rd p : Addr} {H H1 : Hp} {o : HO} (h : Rfrm rd H H1) (n : H1 p = none) : Rfrm rd H (upd H1 p o) := ⟨fun b o e ne => same_new n _ _ (h.stay b o e ne), free_upd h.free⟩
theorem Rfrm.here {rd : Addr} {H H1 : Hp} {o : HO} (h : Rfrm rd H H1) : Rfrm rd H (upd H1 rd o) := ⟨fun b o e ne => by rw [upd_ne ne]; exact h.stay b o e ne, free_upd h.free⟩
theorem Rfrm.mine {rd p : Addr} {H H1 : Hp} {o : HO} (h : Rfrm rd H H1) (n : H p = none) : Rfrm rd H (upd H1 p o) := ⟨fun b o e ne => by rw [upd_ne (ne_of_none e n)]; exact h.stay b o e ne, free_upd h.free⟩
section
variable {P : Program} {w : World} {K : PySem.W.Frag} {mg : Str → Option Value} {base : Heap} {a : Ad}
/-! ### CALLS -/
def CL (a : Ad) : List V := [.ref a.t_CALLS_0, .ref a.t_CALLS_1, .ref a.t_CALLS_2, .ref a.t_CALLS_3, .ref a.t_CALLS_4, .ref a.t_CALLS_5, .ref a.t_CALLS_6, .ref a.t_CALLS_7, .ref a.t_CALLS_8, .ref a.t_CALLS_9, .ref a.t_CALLS_10, .ref a.t_CALLS_11, .ref a.t_CALLS_12, .ref a.t_CALLS_13, .ref a.t_CALLS_14, .ref a.t_CALLS_15, .ref a.t_CALLS_16, .ref a.t_CALLS_17]
theorem Kept.mono {f : Addr} {ps : List Str} {sp : Sp} {CX : CXT} {j k : Nat} (h : Kept P w K mg base CX j f ps sp) (hj : j ≤ k) : Kept P w K mg base CX k f ps sp := by
  obtain ⟨fd, F, b, kp⟩ := h.ex
  exact ⟨fd, F.mono hj, b, kp⟩
/-- what stands in CALLS at a number, and what its def promises -/
theorem disp (T : Txt K mg a) {p : Int} {n k : Nat} {xs : List Int} {rows : List (List Int)} (hs : PySr120.shape p = some (n, k)) (hx : xs.length = n) (hr : rows.length = k) (hrow : ∀ r ∈ rows, r.length ≤ 70) :
    ∃ (j : Nat) (t f : Addr) (call : Sr120.Call), p = ((j : Nat) : Int) ∧ (CL a)[j]? = some (.ref t) ∧ TupAt K t [.ref f, .int (n : Nat), .int (k : Nat)] ∧ Sr120Neutral.parseCall ((p :: xs) :: rows) = some call ∧
      Kept P w K mg base (L2.CX P w) 8 f ["wall", "given"] (spAns a K xs rows call) := by
  unfold PySr120.shape at hs
  by_cases c : p = 0
  · subst c
    cases hs
    match xs, hx, rows, hr with
    | [], _, [], _ => exact ⟨0, _, _, _, rfl, rfl, T.r.t_CALLS_0, rfl, (ok_acreate T).mono (by decide)⟩
  rw [if_neg c] at hs
  by_cases c : p = 1
  · subst c
    cases hs
    match xs, hx, rows, hr with
    | [x, y, z], _, [], _ => exact ⟨1, _, _, _, rfl, rfl, T.r.t_CALLS_1, rfl, (ok_aadd_machine T x y z).mono (by decide)⟩
  rw [if_neg c] at hs
  by_cases c : p = 2
  · subst c
    cases hs
    match xs, hx, rows, hr with
    | [x], _, [], _ => exact ⟨2, _, _, _, rfl, rfl, T.r.t_CALLS_2, rfl, (ok_aremove_machine T x).mono (by decide)⟩
  rw [if_neg c] at hs
  by_cases c : p = 3
  · subst c
    cases hs
    match xs, hx, rows, hr with
    | [x, y], _, [], _ => exact ⟨3, _, _, _, rfl, rfl, T.r.t_CALLS_3, rfl, (ok_aset_position T x y).mono (by decide)⟩
  rw [if_neg c] at hs
  by_cases c : p = 4
  · subst c
    cases hs
    match xs, hx, rows, hr with
    | [x, y], _, [], _ => exact ⟨4, _, _, _, rfl, rfl, T.r.t_CALLS_4, rfl, (ok_aset_run_time T x y).mono (by decide)⟩
  rw [if_neg c] at hs
  by_cases c : p = 5
  · subst c
    cases hs
    match xs, hx, rows, hr with
    | [x, y], _, [], _ => exact ⟨5, _, _, _, rfl, rfl, T.r.t_CALLS_5, rfl, (ok_aset_service_time T x y).mono (by decide)⟩
  rw [if_neg c] at hs
  by_cases c : p = 6
  · subst c
    cases hs
    match xs, hx, rows, hr with
    | [], _, [], _ => exact ⟨6, _, _, _, rfl, rfl, T.r.t_CALLS_6, rfl, (ok_amin_cycle_time T).mono (by decide)⟩
  rw [if_neg c] at hs
  by_cases c : p = 7
  · subst c
    cases hs
    match xs, hx, rows, hr with
    | [], _, [], _ => exact ⟨7, _, _, _, rfl, rfl, T.r.t_CALLS_7, rfl, (ok_abest_tour T).mono (by decide)⟩
  rw [if_neg c] at hs
  by_cases c : p = 8
  · subst c
    cases hs
    match xs, hx, rows, hr with
    | [], _, [r], _ => exact ⟨8, _, _, _, rfl, rfl, T.r.t_CALLS_8, rfl, (ok_acycle_time T r (hrow r (by simp))).mono (by decide)⟩
  rw [if_neg c] at hs
  by_cases c : p = 9
  · subst c
    cases hs
    match xs, hx, rows, hr with
    | [], _, [], _ => exact ⟨9, _, _, _, rfl, rfl, T.r.t_CALLS_9, rfl, (ok_awall_order T).mono (by decide)⟩
  rw [if_neg c] at hs
  by_cases c : p = 10
  · subst c
    cases hs
    match xs, hx, rows, hr with
    | [], _, [r], _ => exact ⟨10, _, _, _, rfl, rfl, T.r.t_CALLS_10, rfl, (ok_astart_times T r (hrow r (by simp))).mono (by decide)⟩
  rw [if_neg c] at hs
  by_cases c : p = 11
  · subst c
    cases hs
    match xs, hx, rows, hr with
    | [x], _, [], _ => exact ⟨11, _, _, _, rfl, rfl, T.r.t_CALLS_11, rfl, (ok_aidle_time T x).mono (by decide)⟩
  rw [if_neg c] at hs
  by_cases c : p = 12
  · subst c
    cases hs
    match xs, hx, rows, hr with
    | [], _, [], _ => exact ⟨12, _, _, _, rfl, rfl, T.r.t_CALLS_12, rfl, (ok_autilization T).mono (by decide)⟩
  rw [if_neg c] at hs
  by_cases c : p = 13
  · subst c
    cases hs
    match xs, hx, rows, hr with
    | [x], _, [], _ => exact ⟨13, _, _, _, rfl, rfl, T.r.t_CALLS_13, rfl, (ok_alargest_group T x).mono (by decide)⟩
  rw [if_neg c] at hs
  by_cases c : p = 14
  · subst c
    cases hs
    match xs, hx, rows, hr with
    | [x], _, [], _ => exact ⟨14, _, _, _, rfl, rfl, T.r.t_CALLS_14, rfl, (ok_abest_tour_of T x).mono (by decide)⟩
  rw [if_neg c] at hs
  by_cases c : p = 15
  · subst c
    cases hs
    match xs, hx, rows, hr with
    | [x], _, [r, q], _ => exact ⟨15, _, _, _, rfl, rfl, T.r.t_CALLS_15, rfl, (ok_acheck_schedule T x r q (hrow r (by simp)) (hrow q (by simp))).mono (by decide)⟩
  rw [if_neg c] at hs
  by_cases c : p = 16
  · subst c
    cases hs
    match xs, hx, rows, hr with
    | [x, y], _, [], _ => exact ⟨16, _, _, _, rfl, rfl, T.r.t_CALLS_16, rfl, (ok_amin_cycle_time_if T x y).mono (by decide)⟩
  rw [if_neg c] at hs
  by_cases c : p = 17
  · subst c
    cases hs
    match xs, hx, rows, hr with
    | [], _, [], _ => exact ⟨17, _, _, _, rfl, rfl, T.r.t_CALLS_17, rfl, (ok_alist_machines T).mono (by decide)⟩
  rw [if_neg c] at hs
  cases hs
theorem CL_at (T : Txt K mg a) (H : Hp) : SqT K H a.t_CALLS (CL a) := T.r.t_CALLS.sq H
/-! ### read_given(reader, number); slots: reader, number, given, k -/
def spGiven (a : Ad) (K : PySem.W.Frag) : Sp := fun vs H Q _ => ∃ (rd dx c : Addr) (l : List Int) (q : Nat) (j n k : Nat) (t f : Addr) (r u : List Int) (rows : List (List Int)), vs = [.ref rd, .int ((j : Nat) : Int)] ∧ H rd = some (.ins a.c_Reader dx (rdF c q)) ∧ Lk K H c l ∧
  (CL a)[j]? = some (.ref t) ∧ TupAt K t [.ref f, .int (n : Nat), .int (k : Nat)] ∧ n ≤ 3 ∧ k ≤ 2 ∧ l.drop q = r ∧ n ≤ r.length ∧ PyFlat.rows k (r.drop n) = some (rows, u) ∧
  ∀ H' g q', Rfrm rd H H' → H g = none → H' rd = some (.ins a.c_Reader dx (rdF c q')) → l.drop q' = u → GivenAt H' g (r.take n) rows → Q (.ref g) H'
theorem sc_given : FnScope ["reader", "number", "given", "k"] ["reader", "number"] (defScope s_read_given) := ⟨rfl, rfl, rfl, by decide +kernel, rfl, by decide +kernel, by decide +kernel⟩
theorem ok_given (T : Txt K mg a) : Kept P w K mg base CX0 3 a.f_read_given ["reader", "number"] (spGiven a K) := by
  obtain ⟨fd, F⟩ := T.r.d_read_given
  obtain ⟨g1, G1⟩ := T.r.d_Reader_take_number
  obtain ⟨g2, G2⟩ := T.r.d_Reader_take_row
  obtain ⟨f1, F1, b1, k1⟩ := (ok_take (P := P) (w := w) (base := base) T).ex
  obtain ⟨f2, F2, b2, k2⟩ := (ok_row (P := P) (w := w) (base := base) T).ex
  refine ⟨fd, F.ok sc_given (fun vs H Q E h => ?_) (fun cdv A outer s H vs Q E hr h => ?_), F.binds fun _ _ _ _ _ _ us hl => match us, hl with | [_, _], _ => rfl, F.kp⟩
  · obtain ⟨rd, dx, c, l, q, j, n, k, t, f, r, u, rows, rfl, _⟩ := h
    rfl
  · refine ⟨_, pss_cons (ps_set (i := 2) sc_given.nd rfl (.inl rfl) (pe_lst pa_nil))
      (pss_cons (ps_for PassesOwn.never rfl (pi_range1 (by rfl) (T.z T.r.z_range) (pa_cons (pe_ix ix_tup (pe_ix ix_tup (pe_glob (v := .ref a.t_CALLS) rfl (T.g T.r.n_CALLS) rfl) (pv 1) (fun _ _ => rfl)) pe_int (fun _ _ => rfl)) pa_nil)) (pg_name (i := 3) sc_given.nd rfl (.inl rfl))
        (pss_one (ps_expr (pe_bm PySem.F.plainAttrs_list PySem.F.slot_list_append PySem.F.type_list_append mt_append (pv 2) (pa_cons (pe_meth0 (pv 0) T.r.c_Reader.cl (meth_mk T.r.m_Reader_take_number T.r.y_Reader_take_number G1) F1 (hr.mono (by decide)) b1 .nil pass0) pa_nil)))))
      (pss_cons (ps_for PassesOwn.never rfl (pi_range1 (by rfl) (T.z T.r.z_range) (pa_cons (pe_ix ix_tup (pe_ix ix_tup (pe_glob (v := .ref a.t_CALLS) rfl (T.g T.r.n_CALLS) rfl) (pv 1) (fun _ _ => rfl)) pe_int (fun _ _ => rfl)) pa_nil)) (pg_name (i := 3) sc_given.nd rfl (.inl rfl))
        (pss_one (ps_expr (pe_bm PySem.F.plainAttrs_list PySem.F.slot_list_append PySem.F.type_list_append mt_append (pv 2) (pa_cons (pe_meth0 (pv 0) T.r.c_Reader.cl (meth_mk T.r.m_Reader_take_row T.r.y_Reader_take_row G2) F2 hr b2 .nil pass0) pa_nil)))))
      (pss_one (ps_ret (pv 2))))), ?_⟩
    obtain ⟨rd, dx, c, l, q, j, n, k, t, f, r, u, rows, rfl, hrd, hl, hj, ht, hn3, hk2, hr0, hn, hrows, kQ⟩ := h
    refine ⟨(by decide), fun g ng => ?_⟩
    have hgr : g ≠ rd := fun e => by
      rw [e, hrd] at ng
      cases ng
    refine ⟨_, rfl, a.t_CALLS, CL a, _, _, rfl, rfl, CL_at T _, atI_nat hj, t, _, _, _, rfl, rfl, ht.sq _, (show atI _ ((1 : Nat) : Int) = _ from atI_nat rfl), _, rfl, by omega, by omega, for_range (n := n) (fun i σ H' => Rfrm rd H H' ∧ (∃ v3, σ = [some (.ref rd), some (.int ((j : Nat) : Int)), some (.ref g), v3]) ∧ Lk K H' c l ∧
      H' rd = some (.ins a.c_Reader dx (rdF c (q + i))) ∧ H' g = some (.lst (intv (r.take i)))) ⟨(Rfrm.refl rd H).new ng, ⟨_, rfl⟩, hl.same (same_new ng), same_new ng _ _ hrd, upd_same⟩ ?_ ?_⟩
    · rintro i σ H' hi ⟨fr, ⟨v3, rfl⟩, hl', hrd', hg'⟩
      have hx : r[i]? = some (r[i]'(by omega)) := List.getElem?_eq_getElem (by omega)
      have hx2 : l[q + i]? = some (r[i]'(by omega)) := by
        rw [← hx, ← hr0, List.getElem?_drop]
      refine ⟨_, rfl, .inl ⟨rfl, _, .of hg'⟩, _, rfl, rd, dx, _, rfl, hrd', rdF_take, rd, dx, c, l, q + i, _, rfl, hrd', hl'.sq, hx2, g, _, _, rfl, rfl, (upd_ne hgr).trans hg', ?_, fr.here.mine ng, ⟨_, rfl⟩, (hl'.upd hrd' (fun _ _ z => by cases z)).upd ((upd_ne hgr).trans hg') (fun _ _ z => by cases z), (upd_ne (Ne.symm hgr)).trans upd_same, ?_⟩
      · rw [intv_len]
        have : (r.take i).length ≤ i := by rw [List.length_take]; omega
        exact small1000 (by omega)
      · rw [upd_same, take_at hx]
        unfold intv
        rw [List.map_append]
        rfl
    · rintro σ H1 ⟨fr, ⟨v3, rfl⟩, hl1, hrd1, hg1⟩
      refine ⟨_, rfl, a.t_CALLS, CL a, _, _, rfl, rfl, CL_at T _, atI_nat hj, t, _, _, _, rfl, rfl, ht.sq _, (show atI _ ((2 : Nat) : Int) = _ from atI_nat rfl), _, rfl, by omega, by omega, for_range (n := k) (fun i σ H' => Rfrm rd H H' ∧ (∃ v3, σ = [some (.ref rd), some (.int ((j : Nat) : Int)), some (.ref g), v3]) ∧ Lk K H' c l ∧
        ∃ (q2 : Nat) (done left : List (List Int)) (rs : List Addr), H' rd = some (.ins a.c_Reader dx (rdF c q2)) ∧ H' g = some (.lst (intv (r.take n) ++ rs.map V.ref)) ∧ rows = done ++ left ∧ done.length = i ∧ rs.length = i ∧ PyFlat.rows (k - i) (l.drop q2) = some (left, u) ∧
          ∀ (m : Nat) (x : Addr) (row : List Int), rs[m]? = some x → done[m]? = some row → x ≠ g ∧ H' x = some (.lst (intv row)))
        ⟨fr, ⟨_, rfl⟩, hl1, q + n, [], rows, [], hrd1, by rw [List.map_nil, List.append_nil]; exact hg1, rfl, rfl, rfl, by rw [Nat.sub_zero, Tw.drop_more hr0]; exact hrows, fun m x row h => by cases h⟩ ?_ ?_⟩
      · rintro i σ H' hi ⟨fr, ⟨v3, rfl⟩, hl', q2, done, left, rs, hrd', hg', e1, e2, e3, e4, e5⟩
        obtain ⟨k0, hk0⟩ : ∃ k0, k - i = k0 + 1 := ⟨k - i - 1, by omega⟩
        rw [hk0] at e4
        obtain ⟨y, rest, left2, d1, d2, d3, d4⟩ := Tw.rows_succ e4
        refine ⟨_, rfl, .inl ⟨rfl, _, .of hg'⟩, _, rfl, rd, dx, _, rfl, hrd', rdF_row, rd, dx, c, l, rest, q2, y, rfl, hrd', hl'.sq, d1, d2, fun H2 x f2 nx hrd2 hx2 => ?_⟩
        have hgx : x ≠ g := fun e => by
          rw [e, hg'] at nx
          cases nx
        have hg2 := f2 _ _ hg' hgr
        refine ⟨g, _, _, rfl, rfl, hg2, ?_, ?_, ⟨_, rfl⟩, ?_, q2 + 1 + y, done ++ [rest.take y], left2, rs ++ [x], (upd_ne (Ne.symm hgr)).trans hrd2, ?_, ?_, ?_, ?_, ?_, fun m z row hm hrow => ?_⟩
        · rw [List.length_append, intv_len, List.length_map, List.length_take]
          exact small1000 (by omega)
        · refine (fr.trans ⟨fun b o e n => f2 b o e n, fun b e => ?_⟩).mine ng
          cases h : H' b with
          | none => rfl
          | some o =>
            by_cases hb : b = rd
            · rw [hb, hrd2] at e
              cases e
            · rw [f2 b o h hb] at e
              cases e
        · exact (hl'.frm f2 (fun o h1 h2 => ne_kind h1 hrd' (fun z => by cases z) h2)).upd hg2 (fun _ _ z => by cases z)
        · rw [upd_same, List.map_append, List.append_assoc]
          rfl
        · rw [e1, d3, List.append_assoc]
          rfl
        · rw [List.length_append, e2]
          rfl
        · rw [List.length_append, e3]
          rfl
        · obtain ⟨_, _, d5⟩ := Tw.drop_next d1
          rw [Tw.drop_more d5, show k - (i + 1) = k0 by omega]
          exact d4
        · by_cases hmi : m < i
          · rw [List.getElem?_append_left (by omega)] at hm
            rw [List.getElem?_append_left (by omega)] at hrow
            obtain ⟨q1, q2⟩ := e5 m z row hm hrow
            refine ⟨q1, ?_⟩
            rw [upd_ne q1]
            exact f2 _ _ q2 (ne_kind q2 hrd' (fun z => by cases z))
          · have hm2 := (List.getElem?_eq_some_iff.mp hm).1
            rw [List.length_append, e3] at hm2
            have hm2 : m < i + 1 := hm2
            have em : m = i := by omega
            subst em
            rw [List.getElem?_append_right (by omega), e3, Nat.sub_self] at hm
            rw [List.getElem?_append_right (by omega), e2, Nat.sub_self] at hrow
            cases hm
            cases hrow
            refine ⟨hgx, ?_⟩
            rw [upd_ne hgx]
            exact hx2
      · rintro σ H2 ⟨fr2, ⟨v3, rfl⟩, hl2, q2, done, left, rs, hrd2, hg2, e1, e2, e3, e4, e5⟩
        rw [Nat.sub_self] at e4
        obtain ⟨d1, d2⟩ := Tw.rows_zero e4
        rw [d1, List.append_nil] at e1
        refine ⟨_, rfl, kQ H2 g q2 fr2 ng hrd2 d2.symm ⟨rs, hg2, by rw [e1, e2, e3], fun m x row hm hrow => (e5 m x row hm (by rw [← e1]; exact hrow)).2⟩⟩
end
end Tp

set_option maxRecDepth 100000
set_option maxHeartbeats 4000000
namespace Tp
open PySem PySem.Spec PyProof.Rows L2 TwX TwY
section
variable {P : Program} {w : World} {K : PySem.W.Frag} {mg : Str → Option Value} {base : Heap} {a : Ad}
/-! ### answer_call(wall, number, given); slots: wall, number, given, answer, refusal -/
def spCall (P : Program) (w : World) (mg : Str → Option Value) (base : Heap) (a : Ad) (K : PySem.W.Frag) : Sp := fun vs H Q _ => ∃ (wv : V) (g : Addr) (j n k : Nat) (t f : Addr) (xs : List Int) (rows : List (List Int)) (call : Sr120.Call), vs = [wv, .int ((j : Nat) : Int), .ref g] ∧
  (CL a)[j]? = some (.ref t) ∧ TupAt K t [.ref f, .int (n : Nat), .int (k : Nat)] ∧ Kept P w K mg base (L2.CX P w) 8 f ["wall", "given"] (spAns a K xs rows call) ∧ GivenAt H g xs rows ∧
  ((wv = .non ∧ ∀ H' r, Same H H' → H r = none → H' r = some (.lst (intv [-11])) → Q (.ref r) H') ∨
   (∃ wa l ws ps, wv = .ref wa ∧ WallAt a H wa l ws ps ∧ ∀ H' r ps', Wfrm l H H' → WallAt a H' wa l ((Sr120.perform ws call).1.getD ws) ps' → H r = none → H' r = some (.lst (intv ((Sr120.perform ws call).2.code :: (Sr120.perform ws call).2.values))) → Q (.ref r) H'))
theorem sc_call : FnScope ["wall", "number", "given", "answer", "refusal"] ["wall", "number", "given"] (defScope s_answer_call) := ⟨rfl, rfl, rfl, by decide +kernel, rfl, by decide +kernel, by decide +kernel⟩
theorem ok_call (T : Txt K mg a) : Kept P w K mg base CX0 9 a.f_answer_call ["wall", "number", "given"] (spCall P w mg base a K) := by
  obtain ⟨fd, F⟩ := T.r.d_answer_call
  obtain ⟨f1, F1, b1, k1⟩ := (ok_NoInstance (P := P) (w := w) (base := base) T).ex
  refine ⟨fd, F.ok sc_call (fun vs H Q E h => ?_) (fun cdv A outer s H vs Q E hr h => ?_), F.binds fun _ _ _ _ _ _ us hl => match us, hl with | [_, _, _], _ => rfl, F.kp⟩
  · obtain ⟨wv, g, j, n, k, t, f, xs, rows, call, rfl, _⟩ := h
    rfl
  · refine ⟨_, pss_cons (ps_set (i := 3) sc_call.nd rfl (.inl rfl) (pe_ix ix_tup (pe_ix ix_tup (pe_glob (v := .ref a.t_CALLS) rfl (T.g T.r.n_CALLS) rfl) (pv 1) (fun _ _ => rfl)) pe_int (fun _ _ => rfl)))
      (pss_one (ps_try_as (i := 4) (tb := fun W => tSeq (tIfS (tTest (tOp (fun x y H Q => y = .non ∧ Q (.bl (decide (x = .non))) H) (tVar 0) (tC .non))) (fun _ σ H => tErrNew a.c_NoInstance (spInit0 K (-11)) tNil σ H fun cls d H' => W cls d σ H') tNext)
          (tRet (tCallE 3 (fun f sp => HeldX P w K mg base 8 f sp) (WE W) (tCons (tVar 0) (tCons (tVar 2) tNil))))) (ts := fun z cls d => tRet (tLst (tCons (tErrGet K z cls d "code" (tVar 4)) tNil))) (Wout := fun _ _ _ _ => False)
        rfl rfl sc_call.nd rfl rfl ⟨rfl, by decide, Or.inl (T.g T.r.n_Refusal)⟩ takes0
        (fun W pn xe tk _ => pss_cons (ps_if (pt_cmpR op_isN (pv 0) pe_non (nomark _)) (pss_one (ps_raise rfl tk (pmk_err0 T.r.e_NoInstance.er T.r.m_NoInstance_init T.r.y_NoInstance_init F1 (hr.mono (by decide)) b1 pass0 rfl (T.g T.r.n_NoInstance)))) pss_nil)
          (pss_one (ps_ret (by exact (pe_callE (fun _ _ h => h) hr rfl (.inl rfl) (fun σ => passAt tk σ) (by exact (pa_cons (pv 0) (pa_cons (pv 2) pa_nil))))))))
        (fun z oe cls d pn hz hf => pss_one (ps_ret (by exact (pe_lst (pa_cons (pe_errGet hz hf (pv 4)) pa_nil))))))), ?_⟩
    obtain ⟨wv, g, j, n, k, t, f, xs, rows, call, rfl, hj, ht, hk, hg, hq⟩ := h
    refine ⟨_, rfl, a.t_CALLS, CL a, _, _, rfl, rfl, CL_at T _, atI_nat hj, t, _, _, _, rfl, rfl, ht.sq _, (show atI _ ((0 : Nat) : Int) = _ from atI_nat rfl), ?_⟩
    rcases hq with ⟨rfl, kN⟩ | ⟨wa, l, ws, ps, rfl, hw, kQ⟩
    · refine ⟨_, rfl, rfl, _, rfl, ite2 (fun _ => ?_) (fun c => absurd (decide_eq_true rfl) c)⟩
      refine err_raise T.r.e_NoInstance.er T.r.g_NoInstance fun d H' S e => ⟨true, T.r.x_NoInstance, fun _ z nz => ⟨_, rfl, rfl, a.c_NoInstance, d, _, _, rfl, T.r.e_NoInstance.xf, T.r.g_NoInstance, rfl, e, lk_here, (by show 1 ≤ sizeLine; decide), fun r nr => kN _ r (S.trans (same_new nr)) (S.free nr) upd_same⟩, fun z => Bool.noConfusion z⟩
    · refine ⟨_, rfl, rfl, _, rfl, ite2 (fun c => absurd (of_decide_eq_true c) (by intro z; cases z)) (fun _ => ?_)⟩
      obtain ⟨fd2, F2, b2, k2⟩ := hk.ex
      refine ⟨f, _, rfl, ⟨fd2, _, F2, k2, b2⟩, _, rfl, _, rfl, wa, l, g, ws, ps, rfl, hw, hg, fun H' r ps' fr hw' nr er => kQ H' r ps' fr hw' nr er, fun C n d H' er S e hp => ?_⟩
      rw [hp] at kQ
      exact ⟨true, er.sub, fun _ z nz => ⟨_, rfl, rfl, C, d, _, _, rfl, er.xf, er.no, rfl, e, lk_here, (by show 1 ≤ sizeLine; decide), fun r nr => kQ _ r ps (.of (S.trans (same_new nr))) (hw.same (S.trans (same_new nr))) (S.free nr) upd_same⟩, fun z => Bool.noConfusion z⟩
end
end Tp

set_option maxRecDepth 100000
set_option maxHeartbeats 4000000
namespace Tp
open PySem PySem.Spec PyProof.Rows L2 TwX TwY
theorem wl_rd {C dx C2 dx2 l c : Addr} {q : Nat} : HO.ins C dx (wlF l) ≠ .ins C2 dx2 (rdF c q) := fun z => by
  cases z
theorem mF_rd {C dx C2 dx2 c : Addr} {m : Sr120.Machine} {q : Nat} : HO.ins C dx (mF m) ≠ .ins C2 dx2 (rdF c q) := fun z => by
  cases z
/-- the state, as the def holds it -/
def StateAt (a : Ad) (H : Hp) (wv : V) (ans : Addr) : Sr120.State → Prop
  | none => wv = .non
  | some ws => ∃ wa l ps, wv = .ref wa ∧ WallAt a H wa l ws ps ∧ l ≠ ans
theorem StateAt.same {a : Ad} {H H' : Hp} {wv : V} {ans : Addr} {st : Sr120.State} (h : StateAt a H wv ans st) (s : Same H H') : StateAt a H' wv ans st := by
  cases st with
  | none => exact h
  | some ws =>
    obtain ⟨wa, l, ps, e, hw, n⟩ := h
    exact ⟨wa, l, ps, e, hw.same s, n⟩
theorem StateAt.reads {a : Ad} {H H' : Hp} {wv : V} {ans rd C dx c : Addr} {q : Nat} {st : Sr120.State} (h : StateAt a H wv ans st) (f : Rfrm rd H H') (hr : H rd = some (.ins C dx (rdF c q))) : StateAt a H' wv ans st := by
  cases st with
  | none => exact h
  | some ws =>
    obtain ⟨wa, l, ps, e, hw, n⟩ := h
    obtain ⟨dw, hd⟩ := hw.obj
    refine ⟨wa, l, ps, e, ⟨⟨dw, f.stay _ _ hd (ne_kind hd hr wl_rd)⟩, ⟨f.stay _ _ hw.fl.lst (ne_kind hw.fl.lst hr (fun z => by cases z)), hw.fl.len, hw.fl.nd, fun i p hp => ?_⟩, hw.most, hw.fit⟩, n⟩
    obtain ⟨dx2, e2⟩ := hw.fl.mach i p hp
    exact ⟨dx2, f.stay _ _ e2 (ne_kind e2 hr mF_rd)⟩
theorem StateAt.writes {a : Ad} {H : Hp} {wv : V} {ans : Addr} {st : Sr120.State} {A B : List V} (h : StateAt a H wv ans st) (ha : H ans = some (.lst A)) : StateAt a (upd H ans (.lst B)) wv ans st := by
  cases st with
  | none => exact h
  | some ws =>
    obtain ⟨wa, l, ps, e, hw, n⟩ := h
    obtain ⟨dw, hd⟩ := hw.obj
    refine ⟨wa, l, ps, e, ⟨⟨dw, ?_⟩, ⟨?_, hw.fl.len, hw.fl.nd, fun i p hp => ?_⟩, hw.most, hw.fit⟩, n⟩
    · rw [upd_ne (ne_kind hd ha (fun z => by cases z))]
      exact hd
    · rw [upd_ne n]
      exact hw.fl.lst
    · obtain ⟨dx2, e2⟩ := hw.fl.mach i p hp
      refine ⟨dx2, ?_⟩
      rw [upd_ne (ne_kind e2 ha (fun z => by cases z))]
      exact e2
/-- what a call answers, and what then is -/
def res (st : Sr120.State) (call : Sr120.Call) : Sr120.State × List Int := match st with
  | none => (none, [-11])
  | some ws => (some ((Sr120.perform ws call).1.getD ws), (Sr120.perform ws call).2.code :: (Sr120.perform ws call).2.values)
/-- a call leaves all but machines and lists; of these, the answers -/
def Keeps (ans : Addr) (H H' : Hp) : Prop := ∀ b o, H b = some o → (¬ ∃ C dx m, o = .ins C dx (mF m)) → ((∀ xs, o ≠ .lst xs) ∨ b = ans) → H' b = some o
theorem res_len {a : Ad} {H : Hp} {wv : V} {ans : Addr} {st : Sr120.State} {call : Sr120.Call} (h : StateAt a H wv ans st) (hc : ∀ t, call = .startTimes t → t.length ≤ 70) : (res st call).2.length ≤ 79 := by
  cases st with
  | none => exact (by decide : 1 ≤ 79)
  | some ws =>
    obtain ⟨wa, l, ps, e, hw, n⟩ := h
    exact Nat.succ_le_succ (Tw.out_len ws hw.most call hc)
theorem res_step {st : Sr120.State} {call : Sr120.Call} (h : call ≠ .create) : ((Sr120.step st call).1, (Sr120.step st call).2.code :: (Sr120.step st call).2.values) = res st call := by
  cases st with
  | none =>
    rw [Tw.step_none h]
    rfl
  | some ws =>
    rw [Tw.step_some h]
    rfl
theorem GivenAt.same {H H' : Hp} {g : Addr} {xs : List Int} {rows : List (List Int)} (h : GivenAt H g xs rows) (s : Same H H') : GivenAt H' g xs rows := by
  obtain ⟨rs, e1, e2, e3⟩ := h.ex
  exact ⟨rs, s _ _ e1, e2, fun i r row h1 h2 => s _ _ (e3 i r row h1 h2)⟩
section
variable {P : Program} {w : World} {K : PySem.W.Frag} {mg : Str → Option Value} {base : Heap} {a : Ad}
def spCall2 (P : Program) (w : World) (mg : Str → Option Value) (base : Heap) (a : Ad) (K : PySem.W.Frag) : Sp := fun vs H Q _ => ∃ (wv : V) (g ans : Addr) (j n k : Nat) (t f : Addr) (xs : List Int) (rows : List (List Int)) (call : Sr120.Call) (st : Sr120.State), vs = [wv, .int ((j : Nat) : Int), .ref g] ∧
  (CL a)[j]? = some (.ref t) ∧ TupAt K t [.ref f, .int (n : Nat), .int (k : Nat)] ∧ Kept P w K mg base (L2.CX P w) 8 f ["wall", "given"] (spAns a K xs rows call) ∧ GivenAt H g xs rows ∧ StateAt a H wv ans st ∧
  ∀ H' r, H r = none → H' r = some (.lst (intv (res st call).2)) → StateAt a H' wv ans (res st call).1 → Keeps ans H H' → Q (.ref r) H'
theorem ok_call2 (T : Txt K mg a) : Kept P w K mg base CX0 9 a.f_answer_call ["wall", "number", "given"] (spCall2 P w mg base a K) := by
  obtain ⟨fd, F, b, kp⟩ := (ok_call (P := P) (w := w) (base := base) T).ex
  refine ⟨fd, F.imp fun vs H Q E h => ?_, b, kp⟩
  obtain ⟨wv, g, ans, j, n, k, t, f, xs, rows, call, st, e, hj, ht, hk, hg, hs, q⟩ := h
  refine ⟨wv, g, j, n, k, t, f, xs, rows, call, e, hj, ht, hk, hg, ?_⟩
  cases st with
  | none => exact .inl ⟨hs, fun H' r S nr er => q H' r nr er hs fun b o eb _ _ => S _ _ eb⟩
  | some ws =>
    obtain ⟨wa, l, ps, e, hw, n⟩ := hs
    refine .inr ⟨wa, l, ws, ps, e, hw, fun H' r ps' fr hw' nr er => q H' r nr er ⟨wa, l, ps', e, hw', n⟩ fun b o eb nm nl => fr.stay b o eb fun z => ?_⟩
    rcases z with z | z
    · rcases nl with nl | nl
      · rw [z, hw.fl.lst] at eb
        cases eb
        exact nl _ rfl
      · exact n (z.symm.trans nl)
    · exact nm z
/-! ### Wall() -/
def spWInit (a : Ad) : Sp := fun vs H Q _ => ∃ (p dx : Addr), vs = [.ref p] ∧ H p = some (.ins a.c_Wall dx []) ∧ ∀ l, H l = none → Q .non (upd (upd H l (.lst [])) p (.ins a.c_Wall dx (wlF l)))
theorem sc_winit : FnScope ["self"] ["self"] (defScope s_Wall_init) := ⟨rfl, rfl, rfl, by decide +kernel, rfl, by decide +kernel, by decide +kernel⟩
theorem ok_winit (T : Txt K mg a) : Kept P w K mg base CX0 1 a.f_Wall_init ["self"] (spWInit a) := by
  obtain ⟨fd, F⟩ := T.r.d_Wall_init
  refine ⟨fd, F.ok sc_winit (fun vs H Q E h => ?_) (fun cdv A outer s H vs Q E hr h => ?_), F.binds fun _ _ _ _ _ _ us hl => match us, hl with | [_], _ => rfl, F.kp⟩
  · obtain ⟨p, dx, rfl, _⟩ := h
    rfl
  · refine ⟨_, pss_one (ps_fld (pv 0) (pe_lst pa_nil) rfl), ?_⟩
    obtain ⟨p, dx, rfl, hp, k⟩ := h
    exact ⟨by decide, fun l nl => ⟨_, rfl, p, _, dx, _, rfl, (upd_ne (ne_of_none hp nl)).trans hp, T.r.c_Wall.cl, T.r.a_Wall_machines, by decide, k l nl⟩⟩
/-! ### answers(calls); slots: calls, reader, wall, answered, number, given, answer -/
def spMain (K : PySem.W.Frag) : Sp := fun vs H Q _ => ∃ (c : Addr) (l : List Int), vs = [.ref c] ∧ Lk K H c l ∧ PySr120.answers_asked l = true ∧
  ∀ H' r, H' r = some (.lst (intv (PySr120.answers l))) → Q (.ref r) H'
theorem sc_main : FnScope ["calls", "reader", "wall", "answered", "number", "given", "answer"] ["calls"] (defScope s_answers) := ⟨rfl, rfl, rfl, by decide +kernel, rfl, by decide +kernel, by decide +kernel⟩
theorem ok_main (T : Txt K mg a) {fd : FuncData} (F : Fun K "answers" "answers" s_answers a.f_answers fd) : FnOk P w K mg base CX0 10 a.f_answers fd ["calls"] (spMain K) := by
  obtain ⟨g1, G1⟩ := T.r.d_Reader_at_end
  obtain ⟨g2, G2⟩ := T.r.d_Reader_take_number
  obtain ⟨f1, F1, b1, k1⟩ := (ok_rinit (P := P) (w := w) (base := base) T).ex
  obtain ⟨f2, F2, b2, k2⟩ := (ok_end (P := P) (w := w) (base := base) T).ex
  obtain ⟨f3, F3, b3, k3⟩ := (ok_take (P := P) (w := w) (base := base) T).ex
  obtain ⟨f4, F4, b4, k4⟩ := (ok_given (P := P) (w := w) (base := base) T).ex
  obtain ⟨f5, F5, b5, k5⟩ := (ok_winit (P := P) (w := w) (base := base) T).ex
  obtain ⟨f6, F6, b6, k6⟩ := (ok_call2 (P := P) (w := w) (base := base) T).ex
  have MR : Mk K a.c_Reader a.f_Reader_init := ⟨T.r.c_Reader.mks, T.r.m_Reader_init, by unfold PySem.W.isFn; rw [T.r.y_Reader_init]; rfl, T.r.c_Reader.kp⟩
  have MW : Mk K a.c_Wall a.f_Wall_init := ⟨T.r.c_Wall.mks, T.r.m_Wall_init, by unfold PySem.W.isFn; rw [T.r.y_Wall_init]; rfl, T.r.c_Wall.kp⟩
  refine F.ok sc_main (fun vs H Q E h => ?_) (fun cdv A outer s H vs Q E hr h => ?_)
  · obtain ⟨c, l, rfl, _⟩ := h
    rfl
  · refine ⟨_, pss_cons (ps_set (i := 1) sc_main.nd rfl (.inl rfl) (pe_make MR F1 (hr.mono (by decide)) rfl (T.g T.r.n_Reader) b1 .nil pass0 (pa_cons (pv 0) pa_nil)))
      (pss_cons (ps_set (i := 2) sc_main.nd rfl (.inl rfl) pe_non)
      (pss_cons (ps_set (i := 3) sc_main.nd rfl (.inl rfl) (pe_lst pa_nil))
      (pss_cons (ps_while PassesOwn.never (pt_not (pt_val (pe_meth0 (pv 1) T.r.c_Reader.cl (meth_mk T.r.m_Reader_at_end T.r.y_Reader_at_end G1) F2 (hr.mono (by decide)) b2 .nil pass0)))
        (pss_cons (ps_set (i := 4) sc_main.nd rfl (.inl rfl) (pe_meth0 (pv 1) T.r.c_Reader.cl (meth_mk T.r.m_Reader_take_number T.r.y_Reader_take_number G2) F3 (hr.mono (by decide)) b3 .nil pass0))
        (pss_cons (ps_set (i := 5) sc_main.nd rfl (.inl rfl) (pe_call F4 (hr.mono (by decide)) rfl (T.g T.r.n_read_given) k4 b4 .nil pass0 (pa_cons (pv 1) (pa_cons (pv 4) pa_nil))))
        (pss_cons (ps_if (pt_cmpR op_eq (pv 4) (pe_mod (T.int T.r.v_CREATE)) (nomark _)) (pss_one (ps_set (i := 2) sc_main.nd rfl (.inl rfl) (pe_make0 MW F5 (hr.mono (by decide)) rfl (T.g T.r.n_Wall) b5 .nil pass0))) pss_nil)
        (pss_cons (ps_set (i := 6) sc_main.nd rfl (.inl rfl) (pe_call F6 hr rfl (T.g T.r.n_answer_call) k6 b6 .nil pass0 (pa_cons (pv 2) (pa_cons (pv 4) (pa_cons (pv 5) pa_nil)))))
        (pss_cons (ps_expr (pe_bm PySem.F.plainAttrs_list PySem.F.slot_list_append PySem.F.type_list_append mt_append (pv 3) (pa_cons (pe_callB call_len_seq (by rfl) (T.z T.r.z_len) PySem.boot_len (pa_cons (pv 6) pa_nil)) pa_nil)))
        (pss_one (ps_expr (pe_bm PySem.F.plainAttrs_list PySem.F.slot_list_extend PySem.F.type_list_extend mt_extend (pv 3) (pa_cons (pv 6) pa_nil))))))))))
      (pss_one (ps_ret (pv 3)))))), ?_⟩
    obtain ⟨c, l, rfl, hl, hask, kQ⟩ := h
    obtain ⟨raw, e0, e60, eask, eans⟩ := Tw.asked_parts hask
    refine ⟨_, rfl, fun rd dr nrd ndr ne => ⟨rd, dr, c, rfl, upd_same, rfl, ?_⟩⟩
    refine ⟨by decide, fun ans nans => ?_⟩
    have hra : rd ≠ ans := fun e => by
      rw [← e, upd_same] at nans
      cases nans
    have L1 : Lk K (upd (upd (upd H dr (.own rd)) rd (.ins a.c_Reader dr [])) rd (.ins a.c_Reader dr (rdF c 0))) c l := hl.same fun b o e => by
      rw [upd_ne (ne_of_none e nrd), upd_ne (ne_of_none e nrd), upd_ne (ne_of_none e ndr)]
      exact e
    refine ⟨fun m σ H' => ∃ (q f : Nat) (v4 v5 v6 : Option V) (wv : V) (st : Sr120.State) (A : List Int) (rest : List (List (List Int))), m = rest.length ∧ PyFlat.calls PySr120.shape f (l.drop q) = some rest ∧ (∀ c ∈ rest, c ∈ raw) ∧ Lk K H' c l ∧ H' rd = some (.ins a.c_Reader dr (rdF c q)) ∧
      H' ans = some (.lst (intv A)) ∧ StateAt a H' wv ans st ∧ σ = [some (.ref c), some (.ref rd), some wv, some (.ref ans), v4, v5, v6] ∧ A.length + 80 * rest.length ≤ 4800 ∧ PySr120.answers l = A ++ PyFlat.told (PyFlat.played Sr120Neutral.step st rest),
      ⟨_, 0, l.length, none, none, none, .non, none, [], raw, rfl, by rw [List.drop_zero]; exact e0, fun _ h => h, L1.same (same_new nans), (upd_ne hra).trans upd_same, upd_same, rfl, rfl, by show 0 + _ ≤ _; omega, eans⟩, ?_⟩
    rintro m σ H1 ⟨q, f, v4, v5, v6, wv, st, A, rest, rfl, er, hin, hl, hrd, hans, hst, rfl, hA, hE⟩
    refine ⟨_, rfl, rd, dr, _, rfl, hrd, rdF_end, rd, dr, c, l, q, rfl, hrd, hl.sq, _, rfl, ?_⟩
    by_cases hq : l.length ≤ q
    · rw [decide_eq_true hq]
      rw [List.drop_eq_nil_of_le hq, Tw.calls_nil] at er
      cases er
      refine iteF ⟨_, rfl, kQ H1 ans ?_⟩
      rw [hE]
      show H1 ans = some (.lst (intv (A ++ [])))
      rw [List.append_nil]
      exact hans
    · rw [decide_eq_false hq]
      have hd : ∃ p r, l.drop q = p :: r := ⟨_, _, List.drop_eq_getElem_cons (by omega)⟩
      obtain ⟨p, r, hd⟩ := hd
      obtain ⟨_, d2, d3⟩ := Tw.drop_next hd
      rw [hd] at er
      obtain ⟨f2, n, k, rows, u, rest2, s1, s2, s3, s4, s5⟩ := Tw.calls_cons er
      subst s4
      have hc := hin _ List.mem_cons_self
      have hrows := Tw.asked_rows (eask _ hc)
      obtain ⟨j, t, fa, call, ej, c1, c2, c3, c4⟩ := disp (P := P) (w := w) (base := base) (xs := r.take n) (rows := rows) T s1 (by rw [List.length_take]; omega) (Tw.rows_len s3) (fun r hr => hrows r hr)
      have hcr := Tw.parse_create c3
      have hn3 : n ≤ 3 ∧ k ≤ 2 := Tw.shape_le s1
      subst ej
      refine ⟨_, fun σ' H' h => ⟨rest2.length, Nat.lt_succ_self _, h⟩, _, rfl, rd, dr, _, rfl, hrd, rdF_take, rd, dr, c, l, q, _, rfl, hrd, hl.sq, d2, ?_⟩
      have R1 : Rfrm rd H1 (upd H1 rd (.ins a.c_Reader dr (rdF c (q + 1)))) := (Rfrm.refl rd H1).here
      refine ⟨_, rfl, _, rfl, rd, dr, c, l, q + 1, j, n, k, t, fa, r, u, rows, rfl, upd_same, hl.upd hrd (fun _ _ z => by cases z), c1, c2, hn3.1, hn3.2, d3, s2, s3, fun H2 g q2 R2 ng hrd2 hu hg => ?_⟩
      have R := R1.trans R2
      have hl2 : Lk K H2 c l := hl.frm (bad := fun b _ => b = rd) (fun b o e n => R.stay b o e n) (fun o h1 h2 => ne_kind h1 hrd (fun z => by cases z) h2)
      have hans2 := R.stay _ _ hans (Ne.symm hra)
      have hst2 := hst.reads R hrd
      refine ⟨_, rfl, rfl, _, rfl, ite2 (fun cz => ?_) (fun cz => ?_)⟩
      · have cz : ((j : Nat) : Int) = 0 := by
          have z := of_decide_eq_true cz
          injection z
        have ecall := hcr.mpr cz
        refine fun wa dx nwa ndx ne => ⟨wa, dx, rfl, upd_same, fun wl nwl => ⟨rfl, ?_⟩⟩
        have S3 : Same H2 (upd (upd (upd (upd H2 dx (.own wa)) wa (.ins a.c_Wall dx [])) wl (.lst [])) wa (.ins a.c_Wall dx (wlF wl))) := fun b o e => by
          have h1 : b ≠ wa := ne_of_none e nwa
          have h2 : b ≠ dx := ne_of_none e ndx
          have h3 : b ≠ wl := by
            intro z
            rw [← z, upd_ne h1, upd_ne h2, e] at nwl
            cases nwl
          rw [upd_ne h1, upd_ne h3, upd_ne h1, upd_ne h2]
          exact e
        have hwl : wl ≠ ans := by
          intro z
          have h1 : ans ≠ wa := ne_of_none hans2 nwa
          have h2 : ans ≠ dx := ne_of_none hans2 ndx
          rw [z, upd_ne h1, upd_ne h2, hans2] at nwl
          cases nwl
        have hww : wl ≠ wa := by
          intro z
          rw [z, upd_same] at nwl
          cases nwl
        have hst3 : StateAt a (upd (upd (upd (upd H2 dx (.own wa)) wa (.ins a.c_Wall dx [])) wl (.lst [])) wa (.ins a.c_Wall dx (wlF wl))) (.ref wa) ans (some []) := ⟨wa, wl, [], rfl, ⟨⟨dx, upd_same⟩, ⟨(upd_ne hww).trans upd_same, rfl, .nil, fun i p h => by cases h⟩, by decide, Tw.Fit.nil⟩, hwl⟩
        have hg3 : GivenAt (upd (upd (upd (upd H2 dx (.own wa)) wa (.ins a.c_Wall dx [])) wl (.lst [])) wa (.ins a.c_Wall dx (wlF wl))) g (r.take n) rows := hg.same S3
        refine ⟨_, rfl, _, rfl, _, rfl, (.ref wa), g, ans, j, n, k, t, fa, r.take n, rows, call, (some []), rfl, c1, c2, c4, hg3, hst3, fun H4 x nx ex hst4 kp => ?_⟩
        have hlen : (res (some []) call).2.length ≤ 79 := by rw [ecall]; decide
        have hans4 := kp _ _ (S3 _ _ hans2) (fun ⟨_, _, _, z⟩ => by cases z) (.inr rfl)
        have hrd4 := kp _ _ (S3 _ _ hrd2) (fun ⟨_, _, _, z⟩ => mF_rd z.symm) (.inl fun _ z => by cases z)
        have hl4 : Lk K H4 c l := (hl2.same S3).frm (bad := fun b o => ¬ H4 b = some o) (fun b o _ n => Classical.not_not.mp n) (fun o h1 h2 => h2 (kp _ _ h1 (fun ⟨_, _, _, z⟩ => by cases z) (.inl fun _ z => by cases z)))
        have hxa : x ≠ ans := fun e => by
          rw [e, (S3 _ _ hans2)] at nx
          cases nx
        refine ⟨_, rfl, .inl ⟨rfl, _, .of hans4⟩, _, rfl, x, _, rfl, .inl (.of ex), ans, _, _, rfl, rfl, hans4, by rw [intv_len, sizeLine_eq]; omega, _, rfl, .inl ⟨rfl, _, .of upd_same⟩, _, rfl, ans, x, _, _, rfl, rfl, upd_same, (upd_ne hxa).trans ex, ?_, q2, f2, _, _, _, (.ref wa), (res (some []) call).1, A ++ (((res (some []) call).2.length : Nat) : Int) :: (res (some []) call).2, rest2, rfl, by rw [hu]; exact s5,
          fun c hc => hin c (List.mem_cons_of_mem _ hc), (hl4.upd hans4 (fun _ _ z => by cases z)).upd upd_same (fun _ _ z => by cases z), ?_, ?_, (hst4.writes hans4).writes upd_same, rfl, ?_, ?_⟩
        · rw [List.length_append, intv_len, intv_len, sizeLine_eq]
          show A.length + 1 + _ ≤ _
          have hA2 : A.length + 80 * (rest2.length + 1) ≤ 4800 := hA
          omega
        · rw [upd_ne hra, upd_ne hra]
          exact hrd4
        · rw [upd_same, intv_len]
          unfold intv
          rw [List.map_append, List.map_cons, List.append_assoc]
          rfl
        · rw [List.length_append, List.length_cons]
          have hA2 : A.length + 80 * (rest2.length + 1) ≤ 4800 := hA
          omega
        · rw [hE]
          show A ++ PyFlat.told ((Sr120Neutral.step st ((((j : Nat) : Int) :: r.take n) :: rows)).2 :: PyFlat.played Sr120Neutral.step (Sr120Neutral.step st ((((j : Nat) : Int) :: r.take n) :: rows)).1 rest2) = _
          have es : Sr120Neutral.step st ((((j : Nat) : Int) :: r.take n) :: rows) = res (some []) call := by
            show (match Sr120Neutral.parseCall _ with | none => _ | some call => _) = _
            rw [c3, ecall]
            rfl
          rw [es, List.append_assoc]
          rfl
      · have cz : ¬ ((j : Nat) : Int) = 0 := fun z => cz (decide_eq_true (congrArg V.int z))
        have ecall : call ≠ .create := fun z => cz (hcr.mp z)
        refine ⟨_, rfl, _, rfl, _, rfl, wv, g, ans, j, n, k, t, fa, r.take n, rows, call, st, rfl, c1, c2, c4, hg, hst2, fun H4 x nx ex hst4 kp => ?_⟩
        have hlen : (res st call).2.length ≤ 79 := res_len hst2 (fun t ht => hrows t (by rw [ht] at c3; exact Tw.parse_start c3))
        have hans4 := kp _ _ hans2 (fun ⟨_, _, _, z⟩ => by cases z) (.inr rfl)
        have hrd4 := kp _ _ hrd2 (fun ⟨_, _, _, z⟩ => mF_rd z.symm) (.inl fun _ z => by cases z)
        have hl4 : Lk K H4 c l := hl2.frm (bad := fun b o => ¬ H4 b = some o) (fun b o _ n => Classical.not_not.mp n) (fun o h1 h2 => h2 (kp _ _ h1 (fun ⟨_, _, _, z⟩ => by cases z) (.inl fun _ z => by cases z)))
        have hxa : x ≠ ans := fun e => by
          rw [e, hans2] at nx
          cases nx
        refine ⟨_, rfl, .inl ⟨rfl, _, .of hans4⟩, _, rfl, x, _, rfl, .inl (.of ex), ans, _, _, rfl, rfl, hans4, by rw [intv_len, sizeLine_eq]; omega, _, rfl, .inl ⟨rfl, _, .of upd_same⟩, _, rfl, ans, x, _, _, rfl, rfl, upd_same, (upd_ne hxa).trans ex, ?_, q2, f2, _, _, _, wv, (res st call).1, A ++ (((res st call).2.length : Nat) : Int) :: (res st call).2, rest2, rfl, by rw [hu]; exact s5,
          fun c hc => hin c (List.mem_cons_of_mem _ hc), (hl4.upd hans4 (fun _ _ z => by cases z)).upd upd_same (fun _ _ z => by cases z), ?_, ?_, (hst4.writes hans4).writes upd_same, rfl, ?_, ?_⟩
        · rw [List.length_append, intv_len, intv_len, sizeLine_eq]
          show A.length + 1 + _ ≤ _
          have hA2 : A.length + 80 * (rest2.length + 1) ≤ 4800 := hA
          omega
        · rw [upd_ne hra, upd_ne hra]
          exact hrd4
        · rw [upd_same, intv_len]
          unfold intv
          rw [List.map_append, List.map_cons, List.append_assoc]
          rfl
        · rw [List.length_append, List.length_cons]
          have hA2 : A.length + 80 * (rest2.length + 1) ≤ 4800 := hA
          omega
        · rw [hE]
          show A ++ PyFlat.told ((Sr120Neutral.step st ((((j : Nat) : Int) :: r.take n) :: rows)).2 :: PyFlat.played Sr120Neutral.step (Sr120Neutral.step st ((((j : Nat) : Int) :: r.take n) :: rows)).1 rest2) = _
          have es : Sr120Neutral.step st ((((j : Nat) : Int) :: r.take n) :: rows) = res st call := by
            show (match Sr120Neutral.parseCall _ with | none => _ | some call => _) = _
            rw [c3]
            exact res_step ecall
          rw [es, List.append_assoc]
          rfl
/-! ### the end -/
theorem Lk.of {K : PySem.W.Frag} {H : Hp} {c : Addr} {l : List Int} (o : OnlyF H) (h : SqL K H c (intv l)) : Lk K H c l := by
  rcases h with (h | h) | h
  · rcases o c with e | ⟨x, u, e⟩
    · rw [e] at h
      cases h
    · rw [e] at h
      cases h
  · exact .inl h
  · exact .inr fun _ => .inr h
end
theorem all_mk {P : Program} {w : World} {K : PySem.W.Frag} {h : Heap} {mg : Str → Option Value} {fa : Addr} {a : Ad} (X : K.In h) (G : h.Ns mainGlobals mg) (hfa : mg "answers" = some (.ref fa)) (r : Raw K a) :
    ∃ fd : FuncData, (∀ (s : Shared) (us : List Value), us.length = (["calls"] : List Str).length → BindsTo s fd ⟨us, []⟩ ((["calls"] : List Str).zip us)) ∧ ∀ base : Heap, K.In base → base.Ns mainGlobals mg → FnOk P w K mg base CX0 20 fa fd ["calls"] (spMain K) := by
  have T : Txt K mg a := ⟨r, fun e => PySem.W.mg_of X G e, fun e => PySem.W.mg_none_of X G e⟩
  have e := hfa.symm.trans (T.g r.n_answers)
  cases e
  obtain ⟨fd, F⟩ := r.d_answers
  refine ⟨fd, fun s us hu => ?_, fun base _ _ => (ok_main T F).mono (by decide)⟩
  obtain ⟨oc, od, kV, doc, pm, an, cdv, ct, osl, rfl, lk, hcd⟩ := F.ex
  exact match us, hu with | [_], _ => .of_eq rfl
end Tp

open PySem PySem.W PyProof.Rows
set_option maxRecDepth 100000 in
set_option maxHeartbeats 8000000 in
theorem PySem.Challenge.cw_tendwall_s01_answers_holds : PySem.Challenge.rw_tendwall_s01_answers.Holds := by
  w_on; k_headS; (case hw => exact ⟨[.list [.int 0]], by decide +kernel, by decide +kernel⟩)
  k_fillS
  refine L2.walk_specK (r := PySem.Challenge.rw_tendwall_s01_answers) (k := 20) (CX := L2.CX0) (ps := ["calls"]) (sp := Tp.spMain) (by decide +kernel) rfl rfl ⟨rfl, by decide, by decide⟩ (fun w h Y => PySem.W.kIn_of Y) ?F ?S (fun _ _ _ _ z => z)
  case F =>
    intro w mg fa h Y KX G hmg
    refine' Tp.all_mk KX G hmg (Tp.raw_mk ?r_n_find_walking_time ?r_d_find_walking_time ?r_n_find_way_on ?r_d_find_way_on ?r_n_find_service_sum ?r_d_find_service_sum ?r_n_find_busy_time ?r_d_find_busy_time ?r_n_find_longest_own_time ?r_d_find_longest_own_time ?r_n_find_cycle_time ?r_d_find_cycle_time ?r_n_find_min_cycle_time ?r_d_find_min_cycle_time ?r_n_find_wall_order ?r_d_find_wall_order ?r_n_find_best_tour ?r_d_find_best_tour ?r_n_find_next_order ?r_d_find_next_order ?r_n_count_masks ?r_d_count_masks ?r_n_find_members ?r_d_find_members ?r_n_find_largest_group ?r_d_find_largest_group ?r_n_check_position ?r_d_check_position ?r_n_check_run_time ?r_d_check_run_time ?r_n_check_service_time ?r_d_check_service_time ?r_n_check_range ?r_d_check_range ?r_n_find_start_times ?r_d_find_start_times ?r_n_find_arrival ?r_d_find_arrival ?r_n_is_feasible ?r_d_is_feasible ?r_n_find_lowest_terms ?r_d_find_lowest_terms ?r_n_find_greatest_divisor ?r_d_find_greatest_divisor ?r_n_answer_create ?r_d_answer_create ?r_n_answer_add_machine ?r_d_answer_add_machine ?r_n_answer_remove_machine ?r_d_answer_remove_machine ?r_n_answer_set_position ?r_d_answer_set_position ?r_n_answer_set_run_time ?r_d_answer_set_run_time ?r_n_answer_set_service_time ?r_d_answer_set_service_time ?r_n_answer_min_cycle_time ?r_d_answer_min_cycle_time ?r_n_answer_best_tour ?r_d_answer_best_tour ?r_n_answer_cycle_time ?r_d_answer_cycle_time ?r_n_answer_wall_order ?r_d_answer_wall_order ?r_n_answer_start_times ?r_d_answer_start_times ?r_n_answer_idle_time ?r_d_answer_idle_time ?r_n_answer_utilization ?r_d_answer_utilization ?r_n_answer_largest_group ?r_d_answer_largest_group ?r_n_answer_best_tour_of ?r_d_answer_best_tour_of ?r_n_answer_check_schedule ?r_d_answer_check_schedule ?r_n_answer_min_cycle_time_if ?r_d_answer_min_cycle_time_if ?r_n_answer_list_machines ?r_d_answer_list_machines ?r_n_read_given ?r_d_read_given ?r_n_answer_call ?r_d_answer_call ?r_n_answers ?r_d_answers ?r_n_Reader ?r_m_Reader_init ?r_y_Reader_init ?r_d_Reader_init ?r_m_Reader_at_end ?r_y_Reader_at_end ?r_d_Reader_at_end ?r_m_Reader_take_number ?r_y_Reader_take_number ?r_d_Reader_take_number ?r_m_Reader_take_row ?r_y_Reader_take_row ?r_d_Reader_take_row ?r_c_Reader ?r_a_Reader_numbers ?r_a_Reader_place ?r_n_Refusal ?r_m_Refusal_init ?r_y_Refusal_init ?r_d_Refusal_init ?r_e_Refusal ?r_x_Refusal ?r_g_Refusal ?r_b_Refusal ?r_n_NoInstance ?r_m_NoInstance_init ?r_y_NoInstance_init ?r_d_NoInstance_init ?r_e_NoInstance ?r_x_NoInstance ?r_g_NoInstance ?r_n_NoSuchMachine ?r_m_NoSuchMachine_init ?r_y_NoSuchMachine_init ?r_d_NoSuchMachine_init ?r_e_NoSuchMachine ?r_x_NoSuchMachine ?r_g_NoSuchMachine ?r_n_BadParameter ?r_m_BadParameter_init ?r_y_BadParameter_init ?r_d_BadParameter_init ?r_e_BadParameter ?r_x_BadParameter ?r_g_BadParameter ?r_n_TooManyMachines ?r_m_TooManyMachines_init ?r_y_TooManyMachines_init ?r_d_TooManyMachines_init ?r_e_TooManyMachines ?r_x_TooManyMachines ?r_g_TooManyMachines ?r_n_NoMachines ?r_m_NoMachines_init ?r_y_NoMachines_init ?r_d_NoMachines_init ?r_e_NoMachines ?r_x_NoMachines ?r_g_NoMachines ?r_n_Machine ?r_m_Machine_init ?r_y_Machine_init ?r_d_Machine_init ?r_m_Machine_own_time ?r_y_Machine_own_time ?r_d_Machine_own_time ?r_m_Machine_distance_to ?r_y_Machine_distance_to ?r_d_Machine_distance_to ?r_c_Machine ?r_a_Machine_position ?r_a_Machine_run_time ?r_a_Machine_service_time ?r_n_Wall ?r_m_Wall_init ?r_y_Wall_init ?r_d_Wall_init ?r_m_Wall_add_machine ?r_y_Wall_add_machine ?r_d_Wall_add_machine ?r_m_Wall_remove_machine ?r_y_Wall_remove_machine ?r_d_Wall_remove_machine ?r_m_Wall_set_position ?r_y_Wall_set_position ?r_d_Wall_set_position ?r_m_Wall_set_run_time ?r_y_Wall_set_run_time ?r_d_Wall_set_run_time ?r_m_Wall_set_service_time ?r_y_Wall_set_service_time ?r_d_Wall_set_service_time ?r_m_Wall_min_cycle_time ?r_y_Wall_min_cycle_time ?r_d_Wall_min_cycle_time ?r_m_Wall_best_tour ?r_y_Wall_best_tour ?r_d_Wall_best_tour ?r_m_Wall_cycle_time ?r_y_Wall_cycle_time ?r_d_Wall_cycle_time ?r_m_Wall_busy_time ?r_y_Wall_busy_time ?r_d_Wall_busy_time ?r_m_Wall_walking_time ?r_y_Wall_walking_time ?r_d_Wall_walking_time ?r_m_Wall_wall_order ?r_y_Wall_wall_order ?r_d_Wall_wall_order ?r_m_Wall_start_times ?r_y_Wall_start_times ?r_d_Wall_start_times ?r_m_Wall_idle_time ?r_y_Wall_idle_time ?r_d_Wall_idle_time ?r_m_Wall_utilization ?r_y_Wall_utilization ?r_d_Wall_utilization ?r_m_Wall_largest_group ?r_y_Wall_largest_group ?r_d_Wall_largest_group ?r_m_Wall_best_tour_of ?r_y_Wall_best_tour_of ?r_d_Wall_best_tour_of ?r_m_Wall_check_schedule ?r_y_Wall_check_schedule ?r_d_Wall_check_schedule ?r_m_Wall_min_cycle_time_if ?r_y_Wall_min_cycle_time_if ?r_d_Wall_min_cycle_time_if ?r_m_Wall_all_members ?r_y_Wall_all_members ?r_d_Wall_all_members ?r_m_Wall_check_machine ?r_y_Wall_check_machine ?r_d_Wall_check_machine ?r_m_Wall_check_tour ?r_y_Wall_check_tour ?r_d_Wall_check_tour ?r_m_Wall_has_machine ?r_y_Wall_has_machine ?r_d_Wall_has_machine ?r_c_Wall ?r_a_Wall_machines ?r_v_MOST_POSITION ?r_v_MOST_RUN_TIME ?r_v_LEAST_SERVICE_TIME ?r_v_MOST_SERVICE_TIME ?r_v_MOST_MACHINES ?r_v_MOST_SCHEDULE_TIME ?r_v_CREATE ?r_n_CALLS ?r_t_CALLS ?r_t_CALLS_0 ?r_t_CALLS_1 ?r_t_CALLS_2 ?r_t_CALLS_3 ?r_t_CALLS_4 ?r_t_CALLS_5 ?r_t_CALLS_6 ?r_t_CALLS_7 ?r_t_CALLS_8 ?r_t_CALLS_9 ?r_t_CALLS_10 ?r_t_CALLS_11 ?r_t_CALLS_12 ?r_t_CALLS_13 ?r_t_CALLS_14 ?r_t_CALLS_15 ?r_t_CALLS_16 ?r_t_CALLS_17 ?r_z_abs ?r_z_len ?r_z_list ?r_z_max ?r_z_min ?r_z_range ?r_z_sorted ?r_z_sum)
    (case r_n_find_walking_time => k_is)
    (case r_d_find_walking_time => (refine' ⟨_, L2.fun_mk ?l1 ?c1 ?k1⟩; (case l1 => k_is); (case c1 => k_is); (case k1 => k_is)))
    (case r_n_find_way_on => k_is)
    (case r_d_find_way_on => (refine' ⟨_, L2.fun_mk ?l2 ?c2 ?k2⟩; (case l2 => k_is); (case c2 => k_is); (case k2 => k_is)))
    (case r_n_find_service_sum => k_is)
    (case r_d_find_service_sum => (refine' ⟨_, L2.fun_mk ?l3 ?c3 ?k3⟩; (case l3 => k_is); (case c3 => k_is); (case k3 => k_is)))
    (case r_n_find_busy_time => k_is)
    (case r_d_find_busy_time => (refine' ⟨_, L2.fun_mk ?l4 ?c4 ?k4⟩; (case l4 => k_is); (case c4 => k_is); (case k4 => k_is)))
    (case r_n_find_longest_own_time => k_is)
    (case r_d_find_longest_own_time => (refine' ⟨_, L2.fun_mk ?l5 ?c5 ?k5⟩; (case l5 => k_is); (case c5 => k_is); (case k5 => k_is)))
    (case r_n_find_cycle_time => k_is)
    (case r_d_find_cycle_time => (refine' ⟨_, L2.fun_mk ?l6 ?c6 ?k6⟩; (case l6 => k_is); (case c6 => k_is); (case k6 => k_is)))
    (case r_n_find_min_cycle_time => k_is)
    (case r_d_find_min_cycle_time => (refine' ⟨_, L2.fun_mk ?l7 ?c7 ?k7⟩; (case l7 => k_is); (case c7 => k_is); (case k7 => k_is)))
    (case r_n_find_wall_order => k_is)
    (case r_d_find_wall_order => (refine' ⟨_, L2.fun_mk ?l8 ?c8 ?k8⟩; (case l8 => k_is); (case c8 => k_is); (case k8 => k_is)))
    (case r_n_find_best_tour => k_is)
    (case r_d_find_best_tour => (refine' ⟨_, L2.fun_mk ?l9 ?c9 ?k9⟩; (case l9 => k_is); (case c9 => k_is); (case k9 => k_is)))
    (case r_n_find_next_order => k_is)
    (case r_d_find_next_order => (refine' ⟨_, L2.fun_mk ?l10 ?c10 ?k10⟩; (case l10 => k_is); (case c10 => k_is); (case k10 => k_is)))
    (case r_n_count_masks => k_is)
    (case r_d_count_masks => (refine' ⟨_, L2.fun_mk ?l11 ?c11 ?k11⟩; (case l11 => k_is); (case c11 => k_is); (case k11 => k_is)))
    (case r_n_find_members => k_is)
    (case r_d_find_members => (refine' ⟨_, L2.fun_mk ?l12 ?c12 ?k12⟩; (case l12 => k_is); (case c12 => k_is); (case k12 => k_is)))
    (case r_n_find_largest_group => k_is)
    (case r_d_find_largest_group => (refine' ⟨_, L2.fun_mk ?l13 ?c13 ?k13⟩; (case l13 => k_is); (case c13 => k_is); (case k13 => k_is)))
    (case r_n_check_position => k_is)
    (case r_d_check_position => (refine' ⟨_, L2.fun_mk ?l14 ?c14 ?k14⟩; (case l14 => k_is); (case c14 => k_is); (case k14 => k_is)))
    (case r_n_check_run_time => k_is)
    (case r_d_check_run_time => (refine' ⟨_, L2.fun_mk ?l15 ?c15 ?k15⟩; (case l15 => k_is); (case c15 => k_is); (case k15 => k_is)))
    (case r_n_check_service_time => k_is)
    (case r_d_check_service_time => (refine' ⟨_, L2.fun_mk ?l16 ?c16 ?k16⟩; (case l16 => k_is); (case c16 => k_is); (case k16 => k_is)))
    (case r_n_check_range => k_is)
    (case r_d_check_range => (refine' ⟨_, L2.fun_mk ?l17 ?c17 ?k17⟩; (case l17 => k_is); (case c17 => k_is); (case k17 => k_is)))
    (case r_n_find_start_times => k_is)
    (case r_d_find_start_times => (refine' ⟨_, L2.fun_mk ?l18 ?c18 ?k18⟩; (case l18 => k_is); (case c18 => k_is); (case k18 => k_is)))
    (case r_n_find_arrival => k_is)
    (case r_d_find_arrival => (refine' ⟨_, L2.fun_mk ?l19 ?c19 ?k19⟩; (case l19 => k_is); (case c19 => k_is); (case k19 => k_is)))
    (case r_n_is_feasible => k_is)
    (case r_d_is_feasible => (refine' ⟨_, L2.fun_mk ?l20 ?c20 ?k20⟩; (case l20 => k_is); (case c20 => k_is); (case k20 => k_is)))
    (case r_n_find_lowest_terms => k_is)
    (case r_d_find_lowest_terms => (refine' ⟨_, L2.fun_mk ?l21 ?c21 ?k21⟩; (case l21 => k_is); (case c21 => k_is); (case k21 => k_is)))
    (case r_n_find_greatest_divisor => k_is)
    (case r_d_find_greatest_divisor => (refine' ⟨_, L2.fun_mk ?l22 ?c22 ?k22⟩; (case l22 => k_is); (case c22 => k_is); (case k22 => k_is)))
    (case r_n_answer_create => k_is)
    (case r_d_answer_create => (refine' ⟨_, L2.fun_mk ?l23 ?c23 ?k23⟩; (case l23 => k_is); (case c23 => k_is); (case k23 => k_is)))
    (case r_n_answer_add_machine => k_is)
    (case r_d_answer_add_machine => (refine' ⟨_, L2.fun_mk ?l24 ?c24 ?k24⟩; (case l24 => k_is); (case c24 => k_is); (case k24 => k_is)))
    (case r_n_answer_remove_machine => k_is)
    (case r_d_answer_remove_machine => (refine' ⟨_, L2.fun_mk ?l25 ?c25 ?k25⟩; (case l25 => k_is); (case c25 => k_is); (case k25 => k_is)))
    (case r_n_answer_set_position => k_is)
    (case r_d_answer_set_position => (refine' ⟨_, L2.fun_mk ?l26 ?c26 ?k26⟩; (case l26 => k_is); (case c26 => k_is); (case k26 => k_is)))
    (case r_n_answer_set_run_time => k_is)
    (case r_d_answer_set_run_time => (refine' ⟨_, L2.fun_mk ?l27 ?c27 ?k27⟩; (case l27 => k_is); (case c27 => k_is); (case k27 => k_is)))
    (case r_n_answer_set_service_time => k_is)
    (case r_d_answer_set_service_time => (refine' ⟨_, L2.fun_mk ?l28 ?c28 ?k28⟩; (case l28 => k_is); (case c28 => k_is); (case k28 => k_is)))
    (case r_n_answer_min_cycle_time => k_is)
    (case r_d_answer_min_cycle_time => (refine' ⟨_, L2.fun_mk ?l29 ?c29 ?k29⟩; (case l29 => k_is); (case c29 => k_is); (case k29 => k_is)))
    (case r_n_answer_best_tour => k_is)
    (case r_d_answer_best_tour => (refine' ⟨_, L2.fun_mk ?l30 ?c30 ?k30⟩; (case l30 => k_is); (case c30 => k_is); (case k30 => k_is)))
    (case r_n_answer_cycle_time => k_is)
    (case r_d_answer_cycle_time => (refine' ⟨_, L2.fun_mk ?l31 ?c31 ?k31⟩; (case l31 => k_is); (case c31 => k_is); (case k31 => k_is)))
    (case r_n_answer_wall_order => k_is)
    (case r_d_answer_wall_order => (refine' ⟨_, L2.fun_mk ?l32 ?c32 ?k32⟩; (case l32 => k_is); (case c32 => k_is); (case k32 => k_is)))
    (case r_n_answer_start_times => k_is)
    (case r_d_answer_start_times => (refine' ⟨_, L2.fun_mk ?l33 ?c33 ?k33⟩; (case l33 => k_is); (case c33 => k_is); (case k33 => k_is)))
    (case r_n_answer_idle_time => k_is)
    (case r_d_answer_idle_time => (refine' ⟨_, L2.fun_mk ?l34 ?c34 ?k34⟩; (case l34 => k_is); (case c34 => k_is); (case k34 => k_is)))
    (case r_n_answer_utilization => k_is)
    (case r_d_answer_utilization => (refine' ⟨_, L2.fun_mk ?l35 ?c35 ?k35⟩; (case l35 => k_is); (case c35 => k_is); (case k35 => k_is)))
    (case r_n_answer_largest_group => k_is)
    (case r_d_answer_largest_group => (refine' ⟨_, L2.fun_mk ?l36 ?c36 ?k36⟩; (case l36 => k_is); (case c36 => k_is); (case k36 => k_is)))
    (case r_n_answer_best_tour_of => k_is)
    (case r_d_answer_best_tour_of => (refine' ⟨_, L2.fun_mk ?l37 ?c37 ?k37⟩; (case l37 => k_is); (case c37 => k_is); (case k37 => k_is)))
    (case r_n_answer_check_schedule => k_is)
    (case r_d_answer_check_schedule => (refine' ⟨_, L2.fun_mk ?l38 ?c38 ?k38⟩; (case l38 => k_is); (case c38 => k_is); (case k38 => k_is)))
    (case r_n_answer_min_cycle_time_if => k_is)
    (case r_d_answer_min_cycle_time_if => (refine' ⟨_, L2.fun_mk ?l39 ?c39 ?k39⟩; (case l39 => k_is); (case c39 => k_is); (case k39 => k_is)))
    (case r_n_answer_list_machines => k_is)
    (case r_d_answer_list_machines => (refine' ⟨_, L2.fun_mk ?l40 ?c40 ?k40⟩; (case l40 => k_is); (case c40 => k_is); (case k40 => k_is)))
    (case r_n_read_given => k_is)
    (case r_d_read_given => (refine' ⟨_, L2.fun_mk ?l41 ?c41 ?k41⟩; (case l41 => k_is); (case c41 => k_is); (case k41 => k_is)))
    (case r_n_answer_call => k_is)
    (case r_d_answer_call => (refine' ⟨_, L2.fun_mk ?l42 ?c42 ?k42⟩; (case l42 => k_is); (case c42 => k_is); (case k42 => k_is)))
    (case r_n_answers => k_is)
    (case r_d_answers => (refine' ⟨_, L2.fun_mk ?l43 ?c43 ?k43⟩; (case l43 => k_is); (case c43 => k_is); (case k43 => k_is)))
    (case r_n_Reader => k_is)
    (case r_m_Reader_init => k_is)
    (case r_y_Reader_init => k_is)
    (case r_d_Reader_init => (refine' ⟨_, L2.fun_mk ?l44 ?c44 ?k44⟩; (case l44 => k_is); (case c44 => k_is); (case k44 => k_is)))
    (case r_m_Reader_at_end => k_is)
    (case r_y_Reader_at_end => k_is)
    (case r_d_Reader_at_end => (refine' ⟨_, L2.fun_mk ?l45 ?c45 ?k45⟩; (case l45 => k_is); (case c45 => k_is); (case k45 => k_is)))
    (case r_m_Reader_take_number => k_is)
    (case r_y_Reader_take_number => k_is)
    (case r_d_Reader_take_number => (refine' ⟨_, L2.fun_mk ?l46 ?c46 ?k46⟩; (case l46 => k_is); (case c46 => k_is); (case k46 => k_is)))
    (case r_m_Reader_take_row => k_is)
    (case r_y_Reader_take_row => k_is)
    (case r_d_Reader_take_row => (refine' ⟨_, L2.fun_mk ?l47 ?c47 ?k47⟩; (case l47 => k_is); (case c47 => k_is); (case k47 => k_is)))
    (case r_c_Reader => (refine' ⟨⟨?p48, ?d48, ?o48, ?s48⟩, ?m48, ?k48⟩; (case p48 => k_is); (case d48 => k_is); (case o48 => k_is); (case s48 => k_is); (case m48 => k_is); (case k48 => k_is)))
    (case r_a_Reader_numbers => k_is)
    (case r_a_Reader_place => k_is)
    (case r_n_Refusal => k_is)
    (case r_m_Refusal_init => k_is)
    (case r_y_Refusal_init => k_is)
    (case r_d_Refusal_init => (refine' ⟨_, L2.fun_mk ?l49 ?c49 ?k49⟩; (case l49 => k_is); (case c49 => k_is); (case k49 => k_is)))
    (case r_e_Refusal => (refine' ⟨Tp.errC_mk ?c50 ?w50 ?s50 ?b50 ?t50 ?k50, ⟨?g50, ?h50, ?e50, ?d50⟩⟩; (case c50 => k_is); (case w50 => decide +kernel); (case s50 => k_is); (case b50 => k_is); (case t50 => k_is); (case k50 => k_is); (case g50 => k_is); (case h50 => k_is); (case e50 => k_is); (case d50 => k_is)))
    (case r_x_Refusal => (refine' Tp.exm_mk ?p51 ?q51 ?r51 ?s51; (case p51 => k_is); (case q51 => k_is); (case r51 => k_is); (case s51 => first | rfl | k_is)))
    (case r_g_Refusal => k_is)
    (case r_b_Refusal => (refine' ⟨⟨?p52, ?q52⟩, ⟨?r52, rfl⟩⟩; (case p52 => k_is); (case q52 => k_is); (case r52 => k_is)))
    (case r_n_NoInstance => k_is)
    (case r_m_NoInstance_init => k_is)
    (case r_y_NoInstance_init => k_is)
    (case r_d_NoInstance_init => (refine' ⟨_, L2.fun_mk ?l53 ?c53 ?k53⟩; (case l53 => k_is); (case c53 => k_is); (case k53 => k_is)))
    (case r_e_NoInstance => (refine' ⟨Tp.errC_mk ?c54 ?w54 ?s54 ?b54 ?t54 ?k54, ⟨?g54, ?h54, ?e54, ?d54⟩⟩; (case c54 => k_is); (case w54 => decide +kernel); (case s54 => k_is); (case b54 => k_is); (case t54 => k_is); (case k54 => k_is); (case g54 => k_is); (case h54 => k_is); (case e54 => k_is); (case d54 => k_is)))
    (case r_x_NoInstance => (refine' Tp.exm_mk ?p55 ?q55 ?r55 ?s55; (case p55 => k_is); (case q55 => k_is); (case r55 => k_is); (case s55 => first | rfl | k_is)))
    (case r_g_NoInstance => k_is)
    (case r_n_NoSuchMachine => k_is)
    (case r_m_NoSuchMachine_init => k_is)
    (case r_y_NoSuchMachine_init => k_is)
    (case r_d_NoSuchMachine_init => (refine' ⟨_, L2.fun_mk ?l56 ?c56 ?k56⟩; (case l56 => k_is); (case c56 => k_is); (case k56 => k_is)))
    (case r_e_NoSuchMachine => (refine' ⟨Tp.errC_mk ?c57 ?w57 ?s57 ?b57 ?t57 ?k57, ⟨?g57, ?h57, ?e57, ?d57⟩⟩; (case c57 => k_is); (case w57 => decide +kernel); (case s57 => k_is); (case b57 => k_is); (case t57 => k_is); (case k57 => k_is); (case g57 => k_is); (case h57 => k_is); (case e57 => k_is); (case d57 => k_is)))
    (case r_x_NoSuchMachine => (refine' Tp.exm_mk ?p58 ?q58 ?r58 ?s58; (case p58 => k_is); (case q58 => k_is); (case r58 => k_is); (case s58 => first | rfl | k_is)))
    (case r_g_NoSuchMachine => k_is)
    (case r_n_BadParameter => k_is)
    (case r_m_BadParameter_init => k_is)
    (case r_y_BadParameter_init => k_is)
    (case r_d_BadParameter_init => (refine' ⟨_, L2.fun_mk ?l59 ?c59 ?k59⟩; (case l59 => k_is); (case c59 => k_is); (case k59 => k_is)))
    (case r_e_BadParameter => (refine' ⟨Tp.errC_mk ?c60 ?w60 ?s60 ?b60 ?t60 ?k60, ⟨?g60, ?h60, ?e60, ?d60⟩⟩; (case c60 => k_is); (case w60 => decide +kernel); (case s60 => k_is); (case b60 => k_is); (case t60 => k_is); (case k60 => k_is); (case g60 => k_is); (case h60 => k_is); (case e60 => k_is); (case d60 => k_is)))
    (case r_x_BadParameter => (refine' Tp.exm_mk ?p61 ?q61 ?r61 ?s61; (case p61 => k_is); (case q61 => k_is); (case r61 => k_is); (case s61 => first | rfl | k_is)))
    (case r_g_BadParameter => k_is)
    (case r_n_TooManyMachines => k_is)
    (case r_m_TooManyMachines_init => k_is)
    (case r_y_TooManyMachines_init => k_is)
    (case r_d_TooManyMachines_init => (refine' ⟨_, L2.fun_mk ?l62 ?c62 ?k62⟩; (case l62 => k_is); (case c62 => k_is); (case k62 => k_is)))
    (case r_e_TooManyMachines => (refine' ⟨Tp.errC_mk ?c63 ?w63 ?s63 ?b63 ?t63 ?k63, ⟨?g63, ?h63, ?e63, ?d63⟩⟩; (case c63 => k_is); (case w63 => decide +kernel); (case s63 => k_is); (case b63 => k_is); (case t63 => k_is); (case k63 => k_is); (case g63 => k_is); (case h63 => k_is); (case e63 => k_is); (case d63 => k_is)))
    (case r_x_TooManyMachines => (refine' Tp.exm_mk ?p64 ?q64 ?r64 ?s64; (case p64 => k_is); (case q64 => k_is); (case r64 => k_is); (case s64 => first | rfl | k_is)))
    (case r_g_TooManyMachines => k_is)
    (case r_n_NoMachines => k_is)
    (case r_m_NoMachines_init => k_is)
    (case r_y_NoMachines_init => k_is)
    (case r_d_NoMachines_init => (refine' ⟨_, L2.fun_mk ?l65 ?c65 ?k65⟩; (case l65 => k_is); (case c65 => k_is); (case k65 => k_is)))
    (case r_e_NoMachines => (refine' ⟨Tp.errC_mk ?c66 ?w66 ?s66 ?b66 ?t66 ?k66, ⟨?g66, ?h66, ?e66, ?d66⟩⟩; (case c66 => k_is); (case w66 => decide +kernel); (case s66 => k_is); (case b66 => k_is); (case t66 => k_is); (case k66 => k_is); (case g66 => k_is); (case h66 => k_is); (case e66 => k_is); (case d66 => k_is)))
    (case r_x_NoMachines => (refine' Tp.exm_mk ?p67 ?q67 ?r67 ?s67; (case p67 => k_is); (case q67 => k_is); (case r67 => k_is); (case s67 => first | rfl | k_is)))
    (case r_g_NoMachines => k_is)
    (case r_n_Machine => k_is)
    (case r_m_Machine_init => k_is)
    (case r_y_Machine_init => k_is)
    (case r_d_Machine_init => (refine' ⟨_, L2.fun_mk ?l68 ?c68 ?k68⟩; (case l68 => k_is); (case c68 => k_is); (case k68 => k_is)))
    (case r_m_Machine_own_time => k_is)
    (case r_y_Machine_own_time => k_is)
    (case r_d_Machine_own_time => (refine' ⟨_, L2.fun_mk ?l69 ?c69 ?k69⟩; (case l69 => k_is); (case c69 => k_is); (case k69 => k_is)))
    (case r_m_Machine_distance_to => k_is)
    (case r_y_Machine_distance_to => k_is)
    (case r_d_Machine_distance_to => (refine' ⟨_, L2.fun_mk ?l70 ?c70 ?k70⟩; (case l70 => k_is); (case c70 => k_is); (case k70 => k_is)))
    (case r_c_Machine => (refine' ⟨⟨?p71, ?d71, ?o71, ?s71⟩, ?m71, ?k71⟩; (case p71 => k_is); (case d71 => k_is); (case o71 => k_is); (case s71 => k_is); (case m71 => k_is); (case k71 => k_is)))
    (case r_a_Machine_position => k_is)
    (case r_a_Machine_run_time => k_is)
    (case r_a_Machine_service_time => k_is)
    (case r_n_Wall => k_is)
    (case r_m_Wall_init => k_is)
    (case r_y_Wall_init => k_is)
    (case r_d_Wall_init => (refine' ⟨_, L2.fun_mk ?l72 ?c72 ?k72⟩; (case l72 => k_is); (case c72 => k_is); (case k72 => k_is)))
    (case r_m_Wall_add_machine => k_is)
    (case r_y_Wall_add_machine => k_is)
    (case r_d_Wall_add_machine => (refine' ⟨_, L2.fun_mk ?l73 ?c73 ?k73⟩; (case l73 => k_is); (case c73 => k_is); (case k73 => k_is)))
    (case r_m_Wall_remove_machine => k_is)
    (case r_y_Wall_remove_machine => k_is)
    (case r_d_Wall_remove_machine => (refine' ⟨_, L2.fun_mk ?l74 ?c74 ?k74⟩; (case l74 => k_is); (case c74 => k_is); (case k74 => k_is)))
    (case r_m_Wall_set_position => k_is)
    (case r_y_Wall_set_position => k_is)
    (case r_d_Wall_set_position => (refine' ⟨_, L2.fun_mk ?l75 ?c75 ?k75⟩; (case l75 => k_is); (case c75 => k_is); (case k75 => k_is)))
    (case r_m_Wall_set_run_time => k_is)
    (case r_y_Wall_set_run_time => k_is)
    (case r_d_Wall_set_run_time => (refine' ⟨_, L2.fun_mk ?l76 ?c76 ?k76⟩; (case l76 => k_is); (case c76 => k_is); (case k76 => k_is)))
    (case r_m_Wall_set_service_time => k_is)
    (case r_y_Wall_set_service_time => k_is)
    (case r_d_Wall_set_service_time => (refine' ⟨_, L2.fun_mk ?l77 ?c77 ?k77⟩; (case l77 => k_is); (case c77 => k_is); (case k77 => k_is)))
    (case r_m_Wall_min_cycle_time => k_is)
    (case r_y_Wall_min_cycle_time => k_is)
    (case r_d_Wall_min_cycle_time => (refine' ⟨_, L2.fun_mk ?l78 ?c78 ?k78⟩; (case l78 => k_is); (case c78 => k_is); (case k78 => k_is)))
    (case r_m_Wall_best_tour => k_is)
    (case r_y_Wall_best_tour => k_is)
    (case r_d_Wall_best_tour => (refine' ⟨_, L2.fun_mk ?l79 ?c79 ?k79⟩; (case l79 => k_is); (case c79 => k_is); (case k79 => k_is)))
    (case r_m_Wall_cycle_time => k_is)
    (case r_y_Wall_cycle_time => k_is)
    (case r_d_Wall_cycle_time => (refine' ⟨_, L2.fun_mk ?l80 ?c80 ?k80⟩; (case l80 => k_is); (case c80 => k_is); (case k80 => k_is)))
    (case r_m_Wall_busy_time => k_is)
    (case r_y_Wall_busy_time => k_is)
    (case r_d_Wall_busy_time => (refine' ⟨_, L2.fun_mk ?l81 ?c81 ?k81⟩; (case l81 => k_is); (case c81 => k_is); (case k81 => k_is)))
    (case r_m_Wall_walking_time => k_is)
    (case r_y_Wall_walking_time => k_is)
    (case r_d_Wall_walking_time => (refine' ⟨_, L2.fun_mk ?l82 ?c82 ?k82⟩; (case l82 => k_is); (case c82 => k_is); (case k82 => k_is)))
    (case r_m_Wall_wall_order => k_is)
    (case r_y_Wall_wall_order => k_is)
    (case r_d_Wall_wall_order => (refine' ⟨_, L2.fun_mk ?l83 ?c83 ?k83⟩; (case l83 => k_is); (case c83 => k_is); (case k83 => k_is)))
    (case r_m_Wall_start_times => k_is)
    (case r_y_Wall_start_times => k_is)
    (case r_d_Wall_start_times => (refine' ⟨_, L2.fun_mk ?l84 ?c84 ?k84⟩; (case l84 => k_is); (case c84 => k_is); (case k84 => k_is)))
    (case r_m_Wall_idle_time => k_is)
    (case r_y_Wall_idle_time => k_is)
    (case r_d_Wall_idle_time => (refine' ⟨_, L2.fun_mk ?l85 ?c85 ?k85⟩; (case l85 => k_is); (case c85 => k_is); (case k85 => k_is)))
    (case r_m_Wall_utilization => k_is)
    (case r_y_Wall_utilization => k_is)
    (case r_d_Wall_utilization => (refine' ⟨_, L2.fun_mk ?l86 ?c86 ?k86⟩; (case l86 => k_is); (case c86 => k_is); (case k86 => k_is)))
    (case r_m_Wall_largest_group => k_is)
    (case r_y_Wall_largest_group => k_is)
    (case r_d_Wall_largest_group => (refine' ⟨_, L2.fun_mk ?l87 ?c87 ?k87⟩; (case l87 => k_is); (case c87 => k_is); (case k87 => k_is)))
    (case r_m_Wall_best_tour_of => k_is)
    (case r_y_Wall_best_tour_of => k_is)
    (case r_d_Wall_best_tour_of => (refine' ⟨_, L2.fun_mk ?l88 ?c88 ?k88⟩; (case l88 => k_is); (case c88 => k_is); (case k88 => k_is)))
    (case r_m_Wall_check_schedule => k_is)
    (case r_y_Wall_check_schedule => k_is)
    (case r_d_Wall_check_schedule => (refine' ⟨_, L2.fun_mk ?l89 ?c89 ?k89⟩; (case l89 => k_is); (case c89 => k_is); (case k89 => k_is)))
    (case r_m_Wall_min_cycle_time_if => k_is)
    (case r_y_Wall_min_cycle_time_if => k_is)
    (case r_d_Wall_min_cycle_time_if => (refine' ⟨_, L2.fun_mk ?l90 ?c90 ?k90⟩; (case l90 => k_is); (case c90 => k_is); (case k90 => k_is)))
    (case r_m_Wall_all_members => k_is)
    (case r_y_Wall_all_members => k_is)
    (case r_d_Wall_all_members => (refine' ⟨_, L2.fun_mk ?l91 ?c91 ?k91⟩; (case l91 => k_is); (case c91 => k_is); (case k91 => k_is)))
    (case r_m_Wall_check_machine => k_is)
    (case r_y_Wall_check_machine => k_is)
    (case r_d_Wall_check_machine => (refine' ⟨_, L2.fun_mk ?l92 ?c92 ?k92⟩; (case l92 => k_is); (case c92 => k_is); (case k92 => k_is)))
    (case r_m_Wall_check_tour => k_is)
    (case r_y_Wall_check_tour => k_is)
    (case r_d_Wall_check_tour => (refine' ⟨_, L2.fun_mk ?l93 ?c93 ?k93⟩; (case l93 => k_is); (case c93 => k_is); (case k93 => k_is)))
    (case r_m_Wall_has_machine => k_is)
    (case r_y_Wall_has_machine => k_is)
    (case r_d_Wall_has_machine => (refine' ⟨_, L2.fun_mk ?l94 ?c94 ?k94⟩; (case l94 => k_is); (case c94 => k_is); (case k94 => k_is)))
    (case r_c_Wall => (refine' ⟨⟨?p95, ?d95, ?o95, ?s95⟩, ?m95, ?k95⟩; (case p95 => k_is); (case d95 => k_is); (case o95 => k_is); (case s95 => k_is); (case m95 => k_is); (case k95 => k_is)))
    (case r_a_Wall_machines => k_is)
    (case r_v_MOST_POSITION => (refine' Tp.int_mk ?q96; (case q96 => k_is)))
    (case r_v_MOST_RUN_TIME => (refine' Tp.int_mk ?q97; (case q97 => k_is)))
    (case r_v_LEAST_SERVICE_TIME => (refine' Tp.int_mk ?q98; (case q98 => k_is)))
    (case r_v_MOST_SERVICE_TIME => (refine' Tp.int_mk ?q99; (case q99 => k_is)))
    (case r_v_MOST_MACHINES => (refine' Tp.int_mk ?q100; (case q100 => k_is)))
    (case r_v_MOST_SCHEDULE_TIME => (refine' Tp.int_mk ?q101; (case q101 => k_is)))
    (case r_v_CREATE => (refine' Tp.int_mk ?q102; (case q102 => k_is)))
    (case r_n_CALLS => k_is)
    (case r_t_CALLS => (refine' Tp.tup_mk ?l103 ?c103 ?d103 ?z103 ?v103; (case l103 => k_is); (case c103 => rfl); (case d103 => rfl); (case z103 => decide); (case v103 => repeat (first | exact .nil | refine .cons rfl ?_ | refine .cons ⟨_, rfl⟩ ?_))))
    (case r_t_CALLS_0 => (refine' Tp.tup_mk ?l104 ?c104 ?d104 ?z104 ?v104; (case l104 => k_is); (case c104 => rfl); (case d104 => rfl); (case z104 => decide); (case v104 => repeat (first | exact .nil | refine .cons rfl ?_ | refine .cons ⟨_, rfl⟩ ?_))))
    (case r_t_CALLS_1 => (refine' Tp.tup_mk ?l105 ?c105 ?d105 ?z105 ?v105; (case l105 => k_is); (case c105 => rfl); (case d105 => rfl); (case z105 => decide); (case v105 => repeat (first | exact .nil | refine .cons rfl ?_ | refine .cons ⟨_, rfl⟩ ?_))))
    (case r_t_CALLS_2 => (refine' Tp.tup_mk ?l106 ?c106 ?d106 ?z106 ?v106; (case l106 => k_is); (case c106 => rfl); (case d106 => rfl); (case z106 => decide); (case v106 => repeat (first | exact .nil | refine .cons rfl ?_ | refine .cons ⟨_, rfl⟩ ?_))))
    (case r_t_CALLS_3 => (refine' Tp.tup_mk ?l107 ?c107 ?d107 ?z107 ?v107; (case l107 => k_is); (case c107 => rfl); (case d107 => rfl); (case z107 => decide); (case v107 => repeat (first | exact .nil | refine .cons rfl ?_ | refine .cons ⟨_, rfl⟩ ?_))))
    (case r_t_CALLS_4 => (refine' Tp.tup_mk ?l108 ?c108 ?d108 ?z108 ?v108; (case l108 => k_is); (case c108 => rfl); (case d108 => rfl); (case z108 => decide); (case v108 => repeat (first | exact .nil | refine .cons rfl ?_ | refine .cons ⟨_, rfl⟩ ?_))))
    (case r_t_CALLS_5 => (refine' Tp.tup_mk ?l109 ?c109 ?d109 ?z109 ?v109; (case l109 => k_is); (case c109 => rfl); (case d109 => rfl); (case z109 => decide); (case v109 => repeat (first | exact .nil | refine .cons rfl ?_ | refine .cons ⟨_, rfl⟩ ?_))))
    (case r_t_CALLS_6 => (refine' Tp.tup_mk ?l110 ?c110 ?d110 ?z110 ?v110; (case l110 => k_is); (case c110 => rfl); (case d110 => rfl); (case z110 => decide); (case v110 => repeat (first | exact .nil | refine .cons rfl ?_ | refine .cons ⟨_, rfl⟩ ?_))))
    (case r_t_CALLS_7 => (refine' Tp.tup_mk ?l111 ?c111 ?d111 ?z111 ?v111; (case l111 => k_is); (case c111 => rfl); (case d111 => rfl); (case z111 => decide); (case v111 => repeat (first | exact .nil | refine .cons rfl ?_ | refine .cons ⟨_, rfl⟩ ?_))))
    (case r_t_CALLS_8 => (refine' Tp.tup_mk ?l112 ?c112 ?d112 ?z112 ?v112; (case l112 => k_is); (case c112 => rfl); (case d112 => rfl); (case z112 => decide); (case v112 => repeat (first | exact .nil | refine .cons rfl ?_ | refine .cons ⟨_, rfl⟩ ?_))))
    (case r_t_CALLS_9 => (refine' Tp.tup_mk ?l113 ?c113 ?d113 ?z113 ?v113; (case l113 => k_is); (case c113 => rfl); (case d113 => rfl); (case z113 => decide); (case v113 => repeat (first | exact .nil | refine .cons rfl ?_ | refine .cons ⟨_, rfl⟩ ?_))))
    (case r_t_CALLS_10 => (refine' Tp.tup_mk ?l114 ?c114 ?d114 ?z114 ?v114; (case l114 => k_is); (case c114 => rfl); (case d114 => rfl); (case z114 => decide); (case v114 => repeat (first | exact .nil | refine .cons rfl ?_ | refine .cons ⟨_, rfl⟩ ?_))))
    (case r_t_CALLS_11 => (refine' Tp.tup_mk ?l115 ?c115 ?d115 ?z115 ?v115; (case l115 => k_is); (case c115 => rfl); (case d115 => rfl); (case z115 => decide); (case v115 => repeat (first | exact .nil | refine .cons rfl ?_ | refine .cons ⟨_, rfl⟩ ?_))))
    (case r_t_CALLS_12 => (refine' Tp.tup_mk ?l116 ?c116 ?d116 ?z116 ?v116; (case l116 => k_is); (case c116 => rfl); (case d116 => rfl); (case z116 => decide); (case v116 => repeat (first | exact .nil | refine .cons rfl ?_ | refine .cons ⟨_, rfl⟩ ?_))))
    (case r_t_CALLS_13 => (refine' Tp.tup_mk ?l117 ?c117 ?d117 ?z117 ?v117; (case l117 => k_is); (case c117 => rfl); (case d117 => rfl); (case z117 => decide); (case v117 => repeat (first | exact .nil | refine .cons rfl ?_ | refine .cons ⟨_, rfl⟩ ?_))))
    (case r_t_CALLS_14 => (refine' Tp.tup_mk ?l118 ?c118 ?d118 ?z118 ?v118; (case l118 => k_is); (case c118 => rfl); (case d118 => rfl); (case z118 => decide); (case v118 => repeat (first | exact .nil | refine .cons rfl ?_ | refine .cons ⟨_, rfl⟩ ?_))))
    (case r_t_CALLS_15 => (refine' Tp.tup_mk ?l119 ?c119 ?d119 ?z119 ?v119; (case l119 => k_is); (case c119 => rfl); (case d119 => rfl); (case z119 => decide); (case v119 => repeat (first | exact .nil | refine .cons rfl ?_ | refine .cons ⟨_, rfl⟩ ?_))))
    (case r_t_CALLS_16 => (refine' Tp.tup_mk ?l120 ?c120 ?d120 ?z120 ?v120; (case l120 => k_is); (case c120 => rfl); (case d120 => rfl); (case z120 => decide); (case v120 => repeat (first | exact .nil | refine .cons rfl ?_ | refine .cons ⟨_, rfl⟩ ?_))))
    (case r_t_CALLS_17 => (refine' Tp.tup_mk ?l121 ?c121 ?d121 ?z121 ?v121; (case l121 => k_is); (case c121 => rfl); (case d121 => rfl); (case z121 => decide); (case v121 => repeat (first | exact .nil | refine .cons rfl ?_ | refine .cons ⟨_, rfl⟩ ?_))))
    (case r_z_abs => k_is)
    (case r_z_len => k_is)
    (case r_z_list => k_is)
    (case r_z_max => k_is)
    (case r_z_min => k_is)
    (case r_z_range => k_is)
    (case r_z_sorted => k_is)
    (case r_z_sum => k_is)
  case S =>
    intro K H xs a hO hwi hask hx
    cases hx with
    | cons h1 h2 =>
      cases h2
      cases h1 with
      | lst hs ha =>
        have e := L2.ints_dw a.1 _ ha
        subst e
        exact ⟨_, a.1, rfl, .of hO hs, hask, fun H' r e => .lst (L2.SqL.of e) (L2.dw_ints _)⟩
