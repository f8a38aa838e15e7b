import Zz34Law
set_option autoImplicit false
set_option linter.all false
namespace MineM
open Askfirst Zz34Law

theorem sum_snoc (l : List Rat) (x : Rat) : (l ++ [x]).sum = l.sum + x := by
  induction l with
  | nil => simp [Rat.add_comm]
  | cons a l ih => simp only [List.cons_append, List.sum_cons, ih]; grind

theorem so_zero (f : Nat → Rat) : sumOver 0 f = 0 := rfl
theorem so_succ (n : Nat) (f : Nat → Rat) : sumOver (n + 1) f = sumOver n f + f n := by
  unfold sumOver
  rw [List.range_succ, List.map_append, List.map_cons, List.map_nil, sum_snoc]

theorem so_le {n : Nat} {f g : Nat → Rat} (h : ∀ t, t < n → f t ≤ g t) : sumOver n f ≤ sumOver n g := by
  induction n with
  | zero => simp [so_zero]
  | succ n ih =>
    rw [so_succ, so_succ]
    have h1 := ih (fun t ht => h t (by omega))
    have h2 := h n (by omega)
    grind

theorem so_congr {n : Nat} {f g : Nat → Rat} (h : ∀ t, t < n → f t = g t) : sumOver n f = sumOver n g := by
  induction n with
  | zero => simp [so_zero]
  | succ n ih =>
    rw [so_succ, so_succ, ih (fun t ht => h t (by omega)), h n (by omega)]

theorem so_lin {n : Nat} (f g : Nat → Rat) (a b : Rat) : sumOver n (fun t => a * f t + b * g t) = a * sumOver n f + b * sumOver n g := by
  induction n with
  | zero => simp [so_zero]; grind
  | succ n ih => rw [so_succ, so_succ, so_succ, ih]; grind

theorem so_nonneg {n : Nat} {f : Nat → Rat} (h : ∀ t, t < n → 0 ≤ f t) : 0 ≤ sumOver n f := by
  induction n with
  | zero => simp [so_zero]
  | succ n ih =>
    rw [so_succ]
    have h1 := ih (fun t ht => h t (by omega))
    have h2 := h n (by omega)
    grind

theorem inv_nonneg' {a : Rat} (h : 0 ≤ a) : 0 ≤ a⁻¹ := by
  by_cases h0 : a = 0
  · subst h0; simp
  · refine Rat.not_lt.mp fun k => ?_
    have h1 := Rat.inv_mul_cancel a h0
    have h2 : 0 ≤ a * (-a⁻¹) := Rat.mul_nonneg h (by grind)
    grind

theorem nat_nonneg (n : Nat) : (0 : Rat) ≤ (n : Rat) := by
  have := @Rat.natCast_le_natCast 0 n
  simpa using this.mpr (Nat.zero_le n)

theorem ch_nonneg (z : Case) (t : Nat) : 0 ≤ chanceAt z t := by
  unfold chanceAt
  rw [Rat.div_def]
  exact Rat.mul_nonneg (nat_nonneg _) (inv_nonneg' (nat_nonneg _))

theorem sum_getD (l : List Nat) : sumOver l.length (fun t => ((l.getD t 0 : Nat) : Rat)) = ((l.sum : Nat) : Rat) := by
  have key : ∀ (k : Nat), k ≤ l.length → sumOver k (fun t => ((l.getD t 0 : Nat) : Rat)) = (((l.take k).sum : Nat) : Rat) := by
    intro k
    induction k with
    | zero => intro _; simp [so_zero]
    | succ k ih =>
      intro hk
      rw [so_succ, ih (by omega), List.take_add_one]
      have h : l[k]? = some (l[k]'(by omega)) := List.getElem?_eq_getElem (by omega)
      rw [h]
      simp only [Option.toList, List.getD, h, Option.getD, List.sum_append_nat, List.sum_cons, List.sum_nil, Nat.add_zero, Rat.natCast_add]
  have := key l.length (Nat.le_refl _)
  rwa [List.take_length] at this

theorem ch_sum {z : Case} (h : IsCaseOf z) : sumOver (tastesIn z) (chanceAt z) = 1 := by
  have e : sumOver (tastesIn z) (chanceAt z) = sumOver (tastesIn z) (fun t => ((z.unit : Rat)⁻¹) * ((z.weights.getD t 0 : Nat) : Rat) + 0 * 0) := by
    apply so_congr
    intro t _
    unfold chanceAt
    rw [Rat.div_def]; grind
  rw [e, so_lin (fun t => ((z.weights.getD t 0 : Nat) : Rat)) (fun _ => 0)]
  unfold tastesIn
  rw [sum_getD, h.2.1]
  have hu : (z.unit : Rat) ≠ 0 := by
    intro h0
    have : z.unit = 0 := by exact_mod_cast h0
    have := h.1
    omega
  rw [Rat.inv_mul_cancel _ hu]
  grind

theorem le_lesser {a b c : Rat} (h1 : c ≤ a) (h2 : c ≤ b) : c ≤ lesser a b := by
  unfold lesser; split <;> assumption
theorem lesser_l (a b : Rat) : lesser a b ≤ a := by unfold lesser; split <;> grind
theorem lesser_r (a b : Rat) : lesser a b ≤ b := by unfold lesser; split <;> grind

theorem step_play {e c r w v o : Rat} (he : IsChance e) (h : w ≤ v) (o1 : 0 ≤ r → 1 - e ≤ o ∧ o ≤ 1) (o2 : r < 0 → 0 ≤ o ∧ o ≤ e) :
    worstStep e c r w ≤ o * r + (1 - o) * v - c := by
  obtain ⟨e0, e1⟩ := he
  unfold worstStep
  by_cases hr : 0 ≤ r
  · rw [if_pos hr]
    obtain ⟨a, b⟩ := o1 hr
    have k1 : 0 ≤ (1 - o) * (v - w) := Rat.mul_nonneg (by grind) (by grind)
    by_cases hw : r ≤ w
    · have k2 : 0 ≤ (1 - o) * (w - r) := Rat.mul_nonneg (by grind) (by grind)
      have := lesser_l r ((1 - e) * r + e * w)
      grind
    · have k2 : 0 ≤ (o - (1 - e)) * (r - w) := Rat.mul_nonneg (by grind) (by grind)
      have := lesser_r r ((1 - e) * r + e * w)
      grind
  · rw [if_neg hr]
    obtain ⟨a, b⟩ := o2 (by grind)
    have k1 : 0 ≤ (1 - o) * (v - w) := Rat.mul_nonneg (by grind) (by grind)
    by_cases hw : r ≤ w
    · have k2 : 0 ≤ (e - o) * (w - r) := Rat.mul_nonneg (by grind) (by grind)
      have := lesser_r w (e * r + (1 - e) * w)
      grind
    · have k2 : 0 ≤ o * (r - w) := Rat.mul_nonneg (by grind) (by grind)
      have := lesser_l w (e * r + (1 - e) * w)
      grind

theorem hard_play (e c r w : Rat) : hardStep e r w * r + (1 - hardStep e r w) * w - c = worstStep e c r w := by
  unfold hardStep worstStep lesser
  split <;> split <;> grind

theorem hard_errs {z : Case} {e c : Rat} {p : Plan} (he : IsChance e) : Errs z e (hardest z e c p) := by
  obtain ⟨e0, e1⟩ := he
  intro t h a
  unfold hardest hardStep
  constructor
  · intro hr; rw [if_pos hr]; split <;> grind
  · intro hr; rw [if_neg (by grind)]; split <;> grind

theorem worst_le_play {z : Case} {e c : Rat} {o : Principal} (he : IsChance e) (ho : Errs z e o) (t : Nat) (x : Option Nat) :
    ∀ (l h : List Nat), worstF z e c t x l ≤ playF z c o t x h l
  | [], h => by simp [worstF, playF]
  | a :: l, h => by
    have ih := worst_le_play (c := c) he ho t x l (h ++ [a])
    unfold worstF playF
    exact step_play he ih (ho t h a).1 (ho t h a).2

theorem play_hard {z : Case} {e c : Rat} {p : Plan} (t : Nat) :
    ∀ (l h : List Nat), l = p.asks.drop h.length → playF z c (hardest z e c p) t p.ending h l = worstF z e c t p.ending l
  | [], h, _ => by simp [worstF, playF]
  | a :: l, h, e1 => by
    have e2 : l = p.asks.drop (h.length + 1) := by
      have : (a :: l).drop 1 = (p.asks.drop h.length).drop 1 := by rw [e1]
      rw [List.drop_drop] at this
      simpa using this
    have ih := play_hard t l (h ++ [a]) (by simpa using e2) (z := z) (e := e) (c := c)
    unfold worstF playF
    rw [ih]
    have : hardest z e c p t h a = hardStep e (rewardAt z t a) (worstF z e c t p.ending l) := by
      unfold hardest; rw [← e2]
    rw [this]
    exact hard_play _ _ _ _

theorem sure_le_play {z : Case} {e c : Rat} {p : Plan} {o : Principal} (he : IsChance e) (ho : Errs z e o) : sureOf z e c p ≤ playOf z c o p := by
  unfold sureOf playOf
  exact so_le fun t _ => Rat.mul_le_mul_of_nonneg_left (worst_le_play he ho t _ _ _) (ch_nonneg z t)

theorem hard_is_sure {z : Case} {e c : Rat} {p : Plan} : playOf z c (hardest z e c p) p = sureOf z e c p := by
  unfold sureOf playOf
  exact so_congr fun t _ => by rw [play_hard t p.asks [] rfl]

theorem is_sure {z : Case} {e c : Rat} {p : Plan} (he : IsChance e) : IsSureOf z e c p (sureOf z e c p) :=
  ⟨fun o ho => sure_le_play he ho, hardest z e c p, hard_errs he, hard_is_sure⟩

theorem sure_uniq {z : Case} {e c : Rat} {p : Plan} {m : Rat} (he : IsChance e) (h : IsSureOf z e c p m) : m = sureOf z e c p := by
  obtain ⟨h1, o, ho, h2⟩ := h
  have a := h1 _ (hard_errs (c := c) (p := p) he)
  rw [hard_is_sure] at a
  have b := sure_le_play (c := c) (p := p) he ho
  grind

theorem step_fall {e f c d r w v : Rat} (he : IsChance e) (hf : IsChance f) (h : e ≤ f) (hc : c ≤ d) (hw : w ≤ v) : worstStep f d r w ≤ worstStep e c r v := by
  obtain ⟨e0, e1⟩ := he
  obtain ⟨f0, f1⟩ := hf
  have k1 : 0 ≤ f * (v - w) := Rat.mul_nonneg (by grind) (by grind)
  have k1' : 0 ≤ (1 - f) * (v - w) := Rat.mul_nonneg (by grind) (by grind)
  unfold worstStep
  by_cases hr : 0 ≤ r
  · rw [if_pos hr, if_pos hr]
    have : lesser r ((1 - f) * r + f * w) ≤ lesser r ((1 - e) * r + e * v) := by
      apply le_lesser
      · exact lesser_l _ _
      · by_cases hv : v ≤ r
        · have k2 : 0 ≤ (f - e) * (r - v) := Rat.mul_nonneg (by grind) (by grind)
          have := lesser_r r ((1 - f) * r + f * w)
          grind
        · have k2 : 0 ≤ e * (v - r) := Rat.mul_nonneg (by grind) (by grind)
          have := lesser_l r ((1 - f) * r + f * w)
          grind
    grind
  · rw [if_neg hr, if_neg hr]
    have : lesser w (f * r + (1 - f) * w) ≤ lesser v (e * r + (1 - e) * v) := by
      apply le_lesser
      · have := lesser_l w (f * r + (1 - f) * w)
        grind
      · by_cases hv : v ≤ r
        · have k2 : 0 ≤ e * (r - v) := Rat.mul_nonneg (by grind) (by grind)
          have := lesser_l w (f * r + (1 - f) * w)
          grind
        · have k2 : 0 ≤ (f - e) * (v - r) := Rat.mul_nonneg (by grind) (by grind)
          have := lesser_r w (f * r + (1 - f) * w)
          grind
    grind

theorem worst_fall {z : Case} {e f c d : Rat} (he : IsChance e) (hf : IsChance f) (h : e ≤ f) (hc : c ≤ d) (t : Nat) (x : Option Nat) :
    ∀ l : List Nat, worstF z f d t x l ≤ worstF z e c t x l
  | [] => by simp [worstF]
  | a :: l => by
    unfold worstF
    exact step_fall he hf h hc (worst_fall he hf h hc t x l)

theorem sure_fall {z : Case} {e f c d : Rat} {p : Plan} (he : IsChance e) (hf : IsChance f) (h : e ≤ f) (hc : c ≤ d) : sureOf z f d p ≤ sureOf z e c p := by
  unfold sureOf
  exact so_le fun t _ => Rat.mul_le_mul_of_nonneg_left (worst_fall he hf h hc t _ _) (ch_nonneg z t)

/-! plans -/
theorem nodup_len : ∀ (n : Nat) (l : List Nat), l.Nodup → (∀ a ∈ l, a < n) → l.length ≤ n
  | 0, l, _, h => by
    cases l with
    | nil => simp
    | cons a l => exact absurd (h a (by simp)) (by omega)
  | n + 1, l, hd, h => by
    have h1 := nodup_len n (l.filter (· != n)) (hd.filter _) (by
      intro a ha
      simp only [List.mem_filter, bne_iff_ne, ne_eq] at ha
      have := h a ha.1
      omega)
    have h2 : l.length ≤ (l.filter (· != n)).length + 1 := by
      have e := List.length_eq_countP_add_countP (· != n) (l := l)
      rw [← List.countP_eq_length_filter]
      have e2 : List.countP (fun a => !(a != n)) l ≤ 1 := by
        have : List.countP (fun a => !(a != n)) l = l.count n := by
          unfold List.count
          congr 1
          funext a
          by_cases k : a = n
          · subst k; simp
          · simp [bne, k]
        rw [this]
        exact List.nodup_iff_count.mp hd n
      have e3 : List.countP (fun a => decide ¬(a != n) = true) l = List.countP (fun a => !(a != n)) l := by
        congr 1
        funext a
        cases (a != n) <;> rfl
      rw [e3] at e
      omega
    omega

theorem mem_rowsF (n : Nat) : ∀ (k : Nat) (l : List Nat), l ∈ rowsF n k ↔ l.length = k ∧ l.Nodup ∧ ∀ a ∈ l, a < n
  | 0, l => by
    unfold rowsF
    constructor
    · intro h
      have : l = [] := by simpa using h
      subst this
      simp
    · intro h
      have : l = [] := List.length_eq_zero_iff.mp h.1
      simp [this]
  | k + 1, l => by
    unfold rowsF
    simp only [List.mem_flatMap, List.mem_range, List.mem_map, List.mem_filter]
    constructor
    · rintro ⟨a, ha, r, ⟨hr, hc⟩, rfl⟩
      obtain ⟨h1, h2, h3⟩ := (mem_rowsF n k r).mp hr
      have hc' : a ∉ r := by simpa using hc
      refine ⟨by simp [h1], List.nodup_cons.mpr ⟨hc', h2⟩, ?_⟩
      intro b hb
      rcases List.mem_cons.mp hb with rfl | hb
      · exact ha
      · exact h3 b hb
    · rintro ⟨h1, h2, h3⟩
      cases l with
      | nil => simp at h1
      | cons a r =>
        have hn := List.nodup_cons.mp h2
        refine ⟨a, h3 a (by simp), r, ⟨(mem_rowsF n k r).mpr ⟨by simpa using h1, hn.2, fun b hb => h3 b (by simp [hb])⟩, by simpa using hn.1⟩, rfl⟩

theorem mem_rowsOf (n : Nat) (l : List Nat) : l ∈ rowsOf n ↔ l.Nodup ∧ ∀ a ∈ l, a < n := by
  unfold rowsOf
  simp only [List.mem_flatMap, List.mem_range]
  constructor
  · rintro ⟨k, _, h⟩
    exact ((mem_rowsF n k l).mp h).2
  · intro h
    exact ⟨l.length, by have := nodup_len n l h.1 h.2; omega, (mem_rowsF n _ l).mpr ⟨rfl, h⟩⟩

theorem mem_endings (n : Nat) (x : Option Nat) : x ∈ endingsOf n ↔ ∀ a, x = some a → a < n := by
  unfold endingsOf
  cases x with
  | none => simp
  | some a => simp

theorem mem_plans (z : Case) (p : Plan) : p ∈ plansOf z ↔ IsPlan z p := by
  unfold plansOf IsPlan
  simp only [List.mem_flatMap, List.mem_map]
  constructor
  · rintro ⟨l, hl, x, hx, rfl⟩
    have a := (mem_rowsOf _ l).mp hl
    exact ⟨a.1, a.2, (mem_endings _ x).mp hx⟩
  · rintro ⟨h1, h2, h3⟩
    exact ⟨p.asks, (mem_rowsOf _ _).mpr ⟨h1, h2⟩, p.ending, (mem_endings _ _).mpr h3, rfl⟩

theorem bf_spec (f : Plan → Rat) : ∀ (l : List Plan) (p : Plan), (bestFrom f p l = p ∨ bestFrom f p l ∈ l) ∧ f p ≤ f (bestFrom f p l) ∧ ∀ q ∈ l, f q ≤ f (bestFrom f p l)
  | [], p => by simp [bestFrom]
  | q :: l, p => by
    unfold bestFrom
    split
    · rename_i h
      obtain ⟨h1, h2, h3⟩ := bf_spec f l q
      refine ⟨Or.inr ?_, by grind, ?_⟩
      · rcases h1 with h1 | h1
        · rw [h1]; simp
        · simp [h1]
      · intro r hr
        rcases List.mem_cons.mp hr with rfl | hr
        · exact h2
        · exact h3 r hr
    · rename_i h
      obtain ⟨h1, h2, h3⟩ := bf_spec f l p
      refine ⟨?_, h2, ?_⟩
      · rcases h1 with h1 | h1
        · exact Or.inl h1
        · exact Or.inr (by simp [h1])
      · intro r hr
        rcases List.mem_cons.mp hr with rfl | hr
        · grind
        · exact h3 r hr

theorem bb_mem (f : Plan → Rat) {l : List Plan} {p : Plan} (h : p ∈ l) : bestBy f l ∈ l := by
  cases l with
  | nil => simp at h
  | cons q l =>
    unfold bestBy
    rcases (bf_spec f l q).1 with e | e
    · show bestFrom f q l ∈ q :: l
      rw [e]; simp
    · exact List.mem_cons_of_mem _ e
theorem bb_ge (f : Plan → Rat) {l : List Plan} {p : Plan} (h : p ∈ l) : f p ≤ f (bestBy f l) := by
  cases l with
  | nil => simp at h
  | cons q l =>
    unfold bestBy
    rcases List.mem_cons.mp h with rfl | h
    · exact (bf_spec f l p).2.1
    · exact (bf_spec f l q).2.2 p h

theorem begins_iff (h l : List Nat) : beginsWith h l = true ↔ ∃ r, l = h ++ r := by
  unfold beginsWith
  rw [beq_iff_eq]
  constructor
  · intro e
    exact ⟨l.drop h.length, by have := List.take_append_drop h.length l; rw [e] at this; exact this.symm⟩
  · rintro ⟨r, rfl⟩
    simp

theorem empty_plan (z : Case) : IsPlan z ⟨[], none⟩ := ⟨by simp, by simp, by simp⟩

theorem best_plan_ok (z : Case) (e c : Rat) : IsPlan z (bestPlan z e c) := by
  have := bb_mem (sureOf z e c) ((mem_plans z _).mpr (empty_plan z))
  exact (mem_plans z _).mp this
theorem best_plan_ge (z : Case) (e c : Rat) {p : Plan} (h : IsPlan z p) : sureOf z e c p ≤ sureOf z e c (bestPlan z e c) :=
  bb_ge (sureOf z e c) ((mem_plans z _).mpr h)

theorem mem_behind (z : Case) (h : List Nat) (p : Plan) : p ∈ plansBehind z h ↔ IsPlan z p ∧ ∃ r, p.asks = h ++ r := by
  unfold plansBehind
  rw [List.mem_filter, mem_plans, begins_iff]

theorem behind_ok (z : Case) (e c : Rat) {h : List Nat} (hh : IsPlan z ⟨h, none⟩) : IsPlan z (bestBehind z e c h) ∧ ∃ r, (bestBehind z e c h).asks = h ++ r := by
  have := bb_mem (sureOf z e c) ((mem_behind z h ⟨h, none⟩).mpr ⟨hh, [], by simp⟩)
  exact (mem_behind z h _).mp this
theorem behind_ge (z : Case) (e c : Rat) {h : List Nat} {p : Plan} (hp : IsPlan z p) (hr : ∃ r, p.asks = h ++ r) : sureOf z e c p ≤ sureOf z e c (bestBehind z e c h) :=
  bb_ge (sureOf z e c) ((mem_behind z h p).mpr ⟨hp, hr⟩)

/-! worth -/
theorem good_nonneg (z : Case) (a : Nat) : 0 ≤ goodOf z a := by
  unfold goodOf
  refine so_nonneg fun t _ => Rat.mul_nonneg (ch_nonneg z t) ?_
  unfold greater; split <;> grind
theorem bad_nonneg (z : Case) (a : Nat) : 0 ≤ badOf z a := by
  unfold badOf
  refine so_nonneg fun t _ => Rat.mul_nonneg (ch_nonneg z t) ?_
  unfold greater; split <;> grind

theorem sure_acting (z : Case) (e c : Rat) (a : Nat) : sureOf z e c (acting a) = goodOf z a - badOf z a := by
  have : goodOf z a - badOf z a = 1 * goodOf z a + (-1) * badOf z a := by grind
  rw [this]
  unfold goodOf badOf
  rw [← so_lin]
  unfold sureOf
  refine so_congr fun t _ => ?_
  show chanceAt z t * rewardAt z t a = _
  unfold greater
  split <;> split <;> grind

theorem greater_pos {r : Rat} (h : 0 ≤ r) : greater r 0 = r := by unfold greater; split <;> grind
theorem greater_neg {r : Rat} (h : r ≤ 0) : greater r 0 = 0 := by unfold greater; split <;> grind
theorem step_zero {e c r : Rat} (he : IsChance e) : worstStep e c r 0 = (1 - e) * greater r 0 - e * greater (-r) 0 - c := by
  obtain ⟨e0, e1⟩ := he
  unfold worstStep lesser
  by_cases hr : 0 ≤ r
  · rw [greater_pos hr, greater_neg (show -r ≤ 0 by grind), if_pos hr]
    have : 0 ≤ e * r := Rat.mul_nonneg e0 hr
    split <;> grind
  · rw [greater_neg (show r ≤ 0 by grind), greater_pos (show 0 ≤ -r by grind), if_neg hr]
    have : 0 ≤ e * (-r) := Rat.mul_nonneg e0 (by grind)
    split <;> grind

theorem sure_asking {z : Case} (hz : IsCaseOf z) {e c : Rat} (he : IsChance e) (a : Nat) : sureOf z e c (asking a) = (1 - e) * goodOf z a - e * badOf z a - c := by
  obtain ⟨e0, e1⟩ := he
  have h : (1 - e) * goodOf z a - e * badOf z a - c = 1 * ((1 - e) * goodOf z a + (-e) * badOf z a) + (-c) * sumOver (tastesIn z) (chanceAt z) := by
    rw [ch_sum hz]; grind
  rw [h]
  unfold goodOf badOf
  rw [← so_lin, ← so_lin]
  unfold sureOf
  refine so_congr fun t _ => ?_
  show chanceAt z t * worstStep e c (rewardAt z t a) 0 = _
  rw [step_zero ⟨e0, e1⟩]
  grind

theorem le_div {a b c : Rat} (h : 0 < c) : a ≤ b / c ↔ a * c ≤ b := by
  have hc : c ≠ 0 := by grind
  have e : b / c * c = b := by
    rw [Rat.div_def, Rat.mul_assoc, Rat.inv_mul_cancel _ hc, Rat.mul_one]
  constructor
  · intro k
    have := Rat.mul_le_mul_of_nonneg_right k (show 0 ≤ c by grind)
    rwa [e] at this
  · intro k
    refine Rat.not_lt.mp fun k2 => ?_
    have := Rat.mul_lt_mul_of_pos_right k2 h
    rw [e] at this
    grind

theorem worth_iff {z : Case} (hz : IsCaseOf z) {e c : Rat} (he : IsChance e) (a : Nat) (h : goodOf z a + badOf z a ≠ 0) :
    sureOf z e c (acting a) ≤ sureOf z e c (asking a) ↔ ∃ x : Rat, worthUpTo z c a = some x ∧ e ≤ x := by
  rw [sure_acting, sure_asking hz he]
  have g0 := good_nonneg z a
  have b0 := bad_nonneg z a
  have hp : 0 < goodOf z a + badOf z a := by grind
  unfold worthUpTo
  rw [if_neg h]
  obtain ⟨e0, e1⟩ := he
  have k : 0 ≤ e * (goodOf z a + badOf z a) := Rat.mul_nonneg e0 (by grind)
  split
  · rename_i hb
    constructor
    · intro q; exfalso; grind
    · rintro ⟨x, hx, _⟩; simp at hx
  · rename_i hb
    constructor
    · intro q
      exact ⟨_, rfl, (le_div hp).mpr (by grind)⟩
    · rintro ⟨x, hx, q⟩
      have hx' := Option.some.inj hx
      subst hx'
      have := (le_div hp).mp q
      grind

theorem main_thm : main_theorem := by
  intro z e f c d p h o a hz he hf hc hp hh ho
  exact ⟨sure_le_play he ho, ⟨hard_errs he, hard_is_sure⟩, ⟨best_plan_ok z e c, best_plan_ge z e c hp⟩,
    ⟨behind_ok z e c hh, fun hr => behind_ge z e c hp hr⟩, fun h1 h2 => sure_fall he hf h1 h2, fun hg => worth_iff hz he a hg⟩
end MineM
namespace MineM
open Askfirst Zz34Law

def Oct (l : Bytes) : Prop := ∀ b ∈ l, b < 256
/-- a getter reads just what is written -/
structure Reads {α : Type} (f : Getter α) (g : α → Bytes) (P : α → Prop) : Prop where
  iff : ∀ (l : Bytes), Oct l → ∀ (x : α) (r : Bytes), f l = some (x, r) ↔ P x ∧ l = g x ++ r

theorem Oct.tail {a b : Bytes} (h : Oct (a ++ b)) : Oct b := fun x hx => h x (by simp [hx])
theorem Oct.head {a b : Bytes} (h : Oct (a ++ b)) : Oct a := fun x hx => h x (by simp [hx])

theorem r_then {α β : Type} {f : Getter α} {k : α → Getter β} {g : α → Bytes} {P : α → Prop} (hf : Reads f g P) (l : Bytes) (hl : Oct l) (y : β) (r : Bytes) :
    getThen f k l = some (y, r) ↔ ∃ x m, P x ∧ l = g x ++ m ∧ k x m = some (y, r) := by
  unfold getThen
  rw [Option.bind_eq_some_iff]
  constructor
  · rintro ⟨⟨x, m⟩, h1, h2⟩
    have := (hf.iff l hl x m).mp h1
    exact ⟨x, m, this.1, this.2, h2⟩
  · rintro ⟨x, m, h1, h2, h3⟩
    exact ⟨(x, m), (hf.iff l hl x m).mpr ⟨h1, h2⟩, h3⟩

theorem r_both {α β : Type} {f : Getter α} {k : Getter β} {g : α → Bytes} {h : β → Bytes} {P : α → Prop} {Q : β → Prop} (hf : Reads f g P) (hk : Reads k h Q) :
    Reads (getBoth f k) (fun p => g p.1 ++ h p.2) (fun p => P p.1 ∧ Q p.2) := by
  constructor
  intro l hl ⟨x, y⟩ r
  unfold getBoth
  rw [r_then hf l hl]
  constructor
  · rintro ⟨x', m, h1, h2, h3⟩
    have om : Oct m := by rw [h2] at hl; exact hl.tail
    unfold getMap at h3
    rw [Option.map_eq_some_iff] at h3
    obtain ⟨⟨b, t⟩, e1, e2⟩ := h3
    have := (hk.iff m om b t).mp e1
    simp only [Prod.mk.injEq] at e2
    obtain ⟨⟨rfl, rfl⟩, rfl⟩ := e2
    exact ⟨⟨h1, this.1⟩, by rw [h2, this.2, List.append_assoc]⟩
  · rintro ⟨⟨h1, h2⟩, h3⟩
    refine ⟨x, h y ++ r, h1, by rw [h3, List.append_assoc], ?_⟩
    have om : Oct (h y ++ r) := by rw [h3, List.append_assoc] at hl; exact hl.tail
    unfold getMap
    rw [(hk.iff _ om y r).mpr ⟨h2, rfl⟩]
    rfl

theorem r_map {α β : Type} {f : Getter α} {u : α → β} (v : β → α) {g : α → Bytes} {P : α → Prop} (hf : Reads f g P) (h1 : ∀ x, v (u x) = x) (h2 : ∀ y, u (v y) = y) :
    Reads (getMap f u) (fun y => g (v y)) (fun y => P (v y)) := by
  constructor
  intro l hl y r
  unfold getMap
  rw [Option.map_eq_some_iff]
  constructor
  · rintro ⟨⟨x, m⟩, e1, e2⟩
    simp only [Prod.mk.injEq] at e2
    obtain ⟨rfl, rfl⟩ := e2
    rw [h1]
    exact (hf.iff l hl x m).mp e1
  · intro q
    exact ⟨(v y, r), (hf.iff l hl (v y) r).mpr q, by simp [h2]⟩

theorem r_if {α β : Type} {f : Getter α} {u : α → Option β} {g : α → Bytes} {P : α → Prop} (k : β → Bytes) (Q : β → Prop) (hf : Reads f g P)
    (h : ∀ y l, (∃ x, P x ∧ u x = some y ∧ l = g x) ↔ Q y ∧ l = k y) :
    Reads (getIf f u) k Q := by
  constructor
  intro l hl y r
  unfold getIf
  rw [Option.bind_eq_some_iff]
  constructor
  · rintro ⟨⟨x, m⟩, e1, e2⟩
    rw [Option.map_eq_some_iff] at e2
    obtain ⟨b, e3, e4⟩ := e2
    simp only [Prod.mk.injEq] at e4
    obtain ⟨rfl, rfl⟩ := e4
    have e5 := (hf.iff l hl x m).mp e1
    have := (h b (g x)).mp ⟨x, e5.1, e3, rfl⟩
    exact ⟨this.1, by rw [e5.2, this.2]⟩
  · rintro ⟨q, rfl⟩
    obtain ⟨x, h1, h2, h3⟩ := (h y (k y)).mpr ⟨q, rfl⟩
    exact ⟨(x, r), (hf.iff _ hl x r).mpr ⟨h1, by rw [h3]⟩, by rw [h2]; rfl⟩

theorem r_some {α : Type} {f : Getter α} {g : α → Bytes} {P : α → Prop} (hf : Reads f g P) : ∀ (n : Nat), 
    Reads (getSome f n) (fun xs => xs.flatMap g) (fun xs => xs.length = n ∧ ∀ x ∈ xs, P x)
  | 0 => ⟨by
    intro l hl x r
    unfold getSome
    constructor
    · intro h
      simp only [Option.some.injEq, Prod.mk.injEq] at h
      obtain ⟨rfl, rfl⟩ := h
      simp
    · rintro ⟨⟨h1, _⟩, h2⟩
      have : x = [] := List.length_eq_zero_iff.mp h1
      subst this
      simp [h2]⟩
  | n + 1 => ⟨by
    intro l hl x r
    unfold getSome
    rw [r_then hf l hl]
    have ih := r_some hf n
    constructor
    · rintro ⟨a, m, h1, h2, h3⟩
      have om : Oct m := by rw [h2] at hl; exact hl.tail
      unfold getMap at h3
      rw [Option.map_eq_some_iff] at h3
      obtain ⟨⟨b, t⟩, e1, e2⟩ := h3
      simp only [Prod.mk.injEq] at e2
      obtain ⟨rfl, rfl⟩ := e2
      obtain ⟨⟨e3, e4⟩, e5⟩ := (ih.iff m om b t).mp e1
      refine ⟨⟨by simp [e3], ?_⟩, by rw [h2, e5, List.flatMap_cons, List.append_assoc]⟩
      intro y hy
      rcases List.mem_cons.mp hy with rfl | hy
      · exact h1
      · exact e4 y hy
    · rintro ⟨⟨h1, h2⟩, h3⟩
      cases x with
      | nil => simp at h1
      | cons a xs =>
        rw [List.flatMap_cons, List.append_assoc] at h3
        refine ⟨a, xs.flatMap g ++ r, h2 a (by simp), h3, ?_⟩
        have om : Oct (xs.flatMap g ++ r) := by rw [h3] at hl; exact hl.tail
        unfold getMap
        rw [(ih.iff _ om xs r).mpr ⟨⟨by simpa using h1, fun y hy => h2 y (by simp [hy])⟩, rfl⟩]
        rfl⟩

theorem r_one : Reads takeOne one isOne := ⟨by
  intro l hl x r
  cases l with
  | nil => simp [takeOne, one]
  | cons a l =>
    have ha : a < 256 := hl a (by simp)
    simp only [takeOne, one, isOne, Option.some.injEq, Prod.mk.injEq, List.cons_append, List.nil_append, List.cons.injEq]
    constructor
    · rintro ⟨rfl, rfl⟩; exact ⟨ha, by omega, rfl⟩
    · rintro ⟨h1, h2, rfl⟩; exact ⟨by omega, rfl⟩⟩

theorem r_two : Reads takeTwo two (fun n => n < 65536) := ⟨by
  intro l hl x r
  match l, hl with
  | [], _ => simp [takeTwo, two]
  | [a], _ => simp [takeTwo, two]
  | a :: b :: l, hl =>
    have ha : a < 256 := hl a (by simp)
    have hb : b < 256 := hl b (by simp)
    simp only [takeTwo, two, Option.some.injEq, Prod.mk.injEq, List.cons_append, List.nil_append, List.cons.injEq]
    constructor
    · rintro ⟨rfl, rfl⟩; exact ⟨by omega, by omega, by omega, rfl⟩
    · rintro ⟨h1, h2, h3, rfl⟩; exact ⟨by omega, rfl⟩⟩

theorem r_four : Reads takeFour four (fun n => n < 4294967296) := ⟨by
  intro l hl x r
  match l, hl with
  | [], _ => simp [takeFour, four]
  | [a], _ => simp [takeFour, four]
  | [a, b], _ => simp [takeFour, four]
  | [a, b, c], _ => simp [takeFour, four]
  | a :: b :: c :: d :: l, hl =>
    have ha : a < 256 := hl a (by simp)
    have hb : b < 256 := hl b (by simp)
    have hc : c < 256 := hl c (by simp)
    have hd : d < 256 := hl d (by simp)
    simp only [takeFour, four, Option.some.injEq, Prod.mk.injEq, List.cons_append, List.nil_append, List.cons.injEq]
    constructor
    · rintro ⟨rfl, rfl⟩; exact ⟨by omega, by omega, by omega, by omega, by omega, rfl⟩
    · rintro ⟨h1, h2, h3, h4, h5, rfl⟩; exact ⟨by omega, rfl⟩⟩

theorem four_mod (n : Nat) : four (n % 4294967296) = four n := by
  unfold four
  congr 1
  · omega
  · congr 1
    · omega
    · congr 1
      · omega
      · congr 1
        omega

theorem intFrom_some (n m : Nat) (hn : n < 4294967296) (hm : m < 4294967296) (i : Int) : intFrom n m = some i ↔ isInteger i ∧ (i.emod 18446744073709551616).toNat = n + 4294967296 * m := by
  unfold intFrom isInteger greatestInt
  simp only
  have e : Int.emod i 18446744073709551616 = i % 18446744073709551616 := rfl
  rw [e]
  split
  · rename_i h
    simp only [Option.some.injEq, Int.ofNat_eq_natCast]
    constructor
    · intro h1; omega
    · rintro ⟨h1, h2⟩; omega
  · split
    · rename_i h h'
      simp only [Option.some.injEq, Int.ofNat_eq_natCast]
      constructor
      · intro h1; omega
      · rintro ⟨h1, h2⟩; omega
    · rename_i h h'
      constructor
      · intro h1; simp at h1
      · rintro ⟨h1, h2⟩; omega

theorem r_int : Reads takeInt eight isInteger := by
  unfold takeInt
  refine r_if eight isInteger (r_both r_four r_four) ?_
  intro y l
  constructor
  · rintro ⟨⟨n, m⟩, ⟨h1, h2⟩, h3, rfl⟩
    obtain ⟨h4, h5⟩ := (intFrom_some n m h1 h2 y).mp h3
    refine ⟨h4, ?_⟩
    simp only at h1 h2
    show four n ++ four m = eight y
    unfold eight
    rw [h5]
    have e1 : (n + 4294967296 * m) / 4294967296 = m := by omega
    have e2 : (n + 4294967296 * m) % 4294967296 = n := by omega
    rw [e1, ← four_mod (n + 4294967296 * m), e2]
  · rintro ⟨h1, rfl⟩
    have e : Int.emod y 18446744073709551616 = y % 18446744073709551616 := rfl
    have hk : (y.emod 18446744073709551616).toNat < 18446744073709551616 := by rw [e]; omega
    refine ⟨((y.emod 18446744073709551616).toNat % 4294967296, (y.emod 18446744073709551616).toNat / 4294967296), ⟨by show _ < _; omega, by show _ < _; omega⟩, ?_, ?_⟩
    · refine (intFrom_some _ _ (by omega) (by omega) y).mpr ⟨h1, ?_⟩
      omega
    · unfold eight
      rw [four_mod]

theorem r_list {α : Type} {f : Getter α} {g : α → Bytes} {P : α → Prop} (hf : Reads f g P) : Reads (takeList f) (listOut g) (areAll P) := ⟨by
  intro l hl x r
  unfold takeList
  rw [r_then r_two l hl]
  unfold listOut areAll
  constructor
  · rintro ⟨n, m, h1, h2, h3⟩
    have om : Oct m := by rw [h2] at hl; exact hl.tail
    obtain ⟨⟨h4, h5⟩, h6⟩ := ((r_some hf n).iff m om x r).mp h3
    subst h4
    exact ⟨⟨h1, h5⟩, by rw [h2, h6, List.append_assoc]⟩
  · rintro ⟨⟨h1, h2⟩, h3⟩
    rw [List.append_assoc] at h3
    have om : Oct (x.flatMap g ++ r) := by rw [h3] at hl; exact hl.tail
    exact ⟨x.length, x.flatMap g ++ r, h1, h3, ((r_some hf _).iff _ om x r).mpr ⟨⟨rfl, h2⟩, rfl⟩⟩⟩

theorem r_flag : Reads takeFlag flagOut (fun _ => True) := by
  unfold takeFlag
  refine r_if flagOut _ r_one ?_
  intro y l
  unfold flagFrom isOne one flagOut
  constructor
  · rintro ⟨x, h1, h2, rfl⟩
    refine ⟨trivial, ?_⟩
    split at h2
    · rename_i h; subst h; cases h2; rfl
    · split at h2
      · rename_i h h'; subst h'; cases h2; rfl
      · simp at h2
  · rintro ⟨_, rfl⟩
    cases y
    · exact ⟨0, by omega, by simp, by simp⟩
    · exact ⟨1, by omega, by simp, by simp⟩

theorem Reads.same {α : Type} {f : Getter α} {g h : α → Bytes} {P Q : α → Prop} (hf : Reads f g P) (e : ∀ x, h x = g x) (k : ∀ x, Q x ↔ P x) : Reads f h Q := ⟨by
  intro l hl x r
  rw [hf.iff l hl, e, k]⟩

theorem r_task : Reads takeTask taskBytes isGivenTask := by
  unfold takeTask
  refine (r_map (fun x : GivenTask => (x.unit, x.weights, x.rewards)) (r_both r_one (r_both (r_list r_one) (r_list (r_list r_int)))) (fun _ => rfl) (fun _ => rfl)).same ?_ ?_
  · intro x; rfl
  · intro x; rfl

theorem r_maybe : Reads takeMaybe (optionOut one) isMaybe := ⟨by
  intro l hl x r
  unfold takeMaybe
  rw [r_then r_one l hl]
  constructor
  · rintro ⟨k, m, h1, h2, h3⟩
    have om : Oct m := by rw [h2] at hl; exact hl.tail
    unfold maybeFrom at h3
    split at h3
    · rename_i h
      subst h
      unfold getUnit at h3
      cases h3
      exact ⟨trivial, h2⟩
    · split at h3
      · rename_i h h'
        subst h'
        unfold getMap at h3
        rw [Option.map_eq_some_iff] at h3
        obtain ⟨⟨a, t⟩, e1, e2⟩ := h3
        cases e2
        have := (r_one.iff m om a t).mp e1
        refine ⟨this.1, ?_⟩
        rw [h2, this.2]
        rfl
      · unfold getNo at h3; simp at h3
  · rintro ⟨h1, h2⟩
    cases x with
    | none =>
      exact ⟨0, r, by unfold isOne; omega, h2, rfl⟩
    | some a =>
      refine ⟨1, one a ++ r, by unfold isOne; omega, h2, ?_⟩
      have om : Oct (one a ++ r) := by
        rw [h2] at hl
        intro b hb
        exact hl b (by simp only [optionOut, List.cons_append]; exact List.mem_cons_of_mem _ hb)
      show getMap takeOne some (one a ++ r) = some (some a, r)
      unfold getMap
      rw [(r_one.iff _ om a r).mpr ⟨h1, rfl⟩]
      rfl⟩

theorem r_plan : Reads takePlan givenBytes isGivenPlan := by
  unfold takePlan
  refine (r_map (fun x : GivenPlan => (x.asks, x.ending)) (r_both (r_list r_one) r_maybe) (fun _ => rfl) (fun _ => rfl)).same ?_ ?_
  · intro x; rfl
  · intro x; rfl
end MineM
namespace MineM
open Askfirst Zz34Law

theorem rm {α β : Type} {f : Getter α} {u : α → β} {g : α → Bytes} {P : α → Prop} (hf : Reads f g P) (l : Bytes) (hl : Oct l) (y : β) (r : Bytes) :
    getMap f u l = some (y, r) ↔ ∃ x, (P x ∧ l = g x ++ r) ∧ u x = y := by
  unfold getMap
  rw [Option.map_eq_some_iff]
  constructor
  · rintro ⟨⟨x, m⟩, e1, e2⟩
    simp only [Prod.mk.injEq] at e2
    obtain ⟨rfl, rfl⟩ := e2
    exact ⟨x, (hf.iff l hl x m).mp e1, rfl⟩
  · rintro ⟨x, q, rfl⟩
    exact ⟨(x, r), (hf.iff l hl x r).mpr q, rfl⟩

theorem call_iff (n : Nat) (l : Bytes) (hl : Oct l) (c : Call) : takeCall n l = some (c, []) ↔ GoesIn c ∧ n :: l = callBytes c := by
  unfold takeCall
  by_cases h1 : n = 1
  · subst h1
    rw [if_pos rfl, rm (r_both r_task (r_both r_plan (r_both r_one r_one))) l hl]
    cases c <;> simp only [GoesIn, callBytes, List.cons.injEq, true_and, reduceCtorEq, and_false, exists_false, Nat.reduceEqDiff, false_and, iff_false, not_false_eq_true]
    case sure x y e c =>
      constructor
      · rintro ⟨⟨x', y', e', c'⟩, ⟨h, h2⟩, h3⟩
        injection h3 with e1 e2 e3 e4
        subst e1 e2 e3 e4
        exact ⟨h, by simpa using h2⟩
      · rintro ⟨h, h2⟩
        exact ⟨⟨x, y, e, c⟩, ⟨h, by simpa using h2⟩, rfl⟩
  rw [if_neg h1]
  by_cases h2 : n = 2
  · subst h2
    rw [if_pos rfl, rm (r_both r_task (r_both r_one r_one)) l hl]
    cases c <;> simp only [GoesIn, callBytes, List.cons.injEq, true_and, reduceCtorEq, and_false, exists_false, Nat.reduceEqDiff, false_and, iff_false, not_false_eq_true]
    case best x e c =>
      constructor
      · rintro ⟨⟨x', e', c'⟩, ⟨h, h2⟩, h3⟩
        injection h3 with e1 e3 e4
        subst e1 e3 e4
        exact ⟨h, by simpa using h2⟩
      · rintro ⟨h, h2⟩
        exact ⟨⟨x, e, c⟩, ⟨h, by simpa using h2⟩, rfl⟩
  rw [if_neg h2]
  by_cases h3 : n = 3
  · subst h3
    rw [if_pos rfl, rm (r_both r_task (r_both r_one r_one)) l hl]
    cases c <;> simp only [GoesIn, callBytes, List.cons.injEq, true_and, reduceCtorEq, and_false, exists_false, Nat.reduceEqDiff, false_and, iff_false, not_false_eq_true]
    case worth x e c =>
      constructor
      · rintro ⟨⟨x', e', c'⟩, ⟨h, h2⟩, h3⟩
        injection h3 with e1 e3 e4
        subst e1 e3 e4
        exact ⟨h, by simpa using h2⟩
      · rintro ⟨h, h2⟩
        exact ⟨⟨x, e, c⟩, ⟨h, by simpa using h2⟩, rfl⟩
  rw [if_neg h3]
  by_cases h4 : n = 4
  · subst h4
    rw [if_pos rfl, rm (r_both r_task (r_both r_plan (r_both r_one r_int))) l hl]
    cases c <;> simp only [GoesIn, callBytes, List.cons.injEq, true_and, reduceCtorEq, and_false, exists_false, Nat.reduceEqDiff, false_and, iff_false, not_false_eq_true]
    case upTo x y e c =>
      constructor
      · rintro ⟨⟨x', y', e', c'⟩, ⟨h, h2⟩, h3⟩
        injection h3 with e1 e2 e3 e4
        subst e1 e2 e3 e4
        exact ⟨h, by simpa using h2⟩
      · rintro ⟨h, h2⟩
        exact ⟨⟨x, y, e, c⟩, ⟨h, by simpa using h2⟩, rfl⟩
  rw [if_neg h4]
  by_cases h5 : n = 5
  · subst h5
    rw [if_pos rfl, rm r_task l hl]
    cases c <;> simp only [GoesIn, callBytes, List.cons.injEq, true_and, reduceCtorEq, and_false, exists_false, Nat.reduceEqDiff, false_and, iff_false, not_false_eq_true]
    case make x =>
      constructor
      · rintro ⟨x', ⟨h, h2⟩, h3⟩
        injection h3 with e1
        subst e1
        exact ⟨h, by simpa using h2⟩
      · rintro ⟨h, h2⟩
        exact ⟨x, ⟨h, by simpa using h2⟩, rfl⟩
  rw [if_neg h5]
  by_cases h6 : n = 6
  · subst h6
    rw [if_pos rfl, rm (r_both r_one r_flag) l hl]
    cases c <;> simp only [GoesIn, callBytes, List.cons.injEq, true_and, reduceCtorEq, and_false, exists_false, Nat.reduceEqDiff, false_and, iff_false, not_false_eq_true]
    case propose x y =>
      constructor
      · rintro ⟨⟨x', e'⟩, ⟨h, h2⟩, h3⟩
        injection h3 with e1 e3
        subst e1 e3
        exact ⟨h, by simpa using h2⟩
      · rintro ⟨h, h2⟩
        exact ⟨⟨x, y⟩, ⟨h, by simpa using h2⟩, rfl⟩
  rw [if_neg h6]
  by_cases h7 : n = 7
  · subst h7
    rw [if_pos rfl, rm (r_both r_one r_one) l hl]
    cases c <;> simp only [GoesIn, callBytes, List.cons.injEq, true_and, reduceCtorEq, and_false, exists_false, Nat.reduceEqDiff, false_and, iff_false, not_false_eq_true]
    case advice x y =>
      constructor
      · rintro ⟨⟨x', e'⟩, ⟨h, h2⟩, h3⟩
        injection h3 with e1 e3
        subst e1 e3
        exact ⟨h, by simpa using h2⟩
      · rintro ⟨h, h2⟩
        exact ⟨⟨x, y⟩, ⟨h, by simpa using h2⟩, rfl⟩
  rw [if_neg h7]
  by_cases h8 : n = 8
  · subst h8
    rw [if_pos rfl]
    unfold getUnit
    cases c <;> simp [GoesIn, callBytes]
  rw [if_neg h8]
  by_cases h9 : n = 9
  · subst h9
    rw [if_pos rfl]
    unfold getUnit
    cases c <;> simp [GoesIn, callBytes]
  rw [if_neg h9]
  by_cases h10 : n = 10
  · subst h10
    rw [if_pos rfl]
    unfold getUnit
    cases c <;> simp [GoesIn, callBytes]
  rw [if_neg h10]
  unfold getNo
  cases c <;> simp [GoesIn, callBytes, *]

theorem oct_map (l : List UInt8) : Oct (l.map fun b => b.toNat) := by
  intro b hb
  obtain ⟨x, _, rfl⟩ := List.mem_map.mp hb
  exact x.toNat_lt

theorem octets_back (l : List UInt8) : octets (l.map fun b => b.toNat) = l := by
  unfold octets
  rw [List.map_map]
  conv => rhs; rw [← List.map_id l]
  apply List.map_congr_left
  intro x _
  simp

theorem octets_forth {m : Bytes} (h : Oct m) : (octets m).map (fun b => b.toNat) = m := by
  unfold octets
  rw [List.map_map]
  conv => rhs; rw [← List.map_id m]
  apply List.map_congr_left
  intro x hx
  have := h x hx
  simp
  omega

theorem oct_app {a b : Bytes} (ha : Oct a) (hb : Oct b) : Oct (a ++ b) := by
  intro x hx
  rcases List.mem_append.mp hx with h | h
  · exact ha x h
  · exact hb x h
theorem oct_cons {a : Nat} {b : Bytes} (ha : a < 256) (hb : Oct b) : Oct (a :: b) := by
  intro x hx
  rcases List.mem_cons.mp hx with rfl | h
  · exact ha
  · exact hb x h
theorem oct_nil : Oct [] := by intro x hx; simp at hx
theorem oct_one (n : Nat) : Oct (one n) := oct_cons (by omega) oct_nil
theorem oct_two (n : Nat) : Oct (two n) := oct_cons (by omega) (oct_cons (by omega) oct_nil)
theorem oct_four (n : Nat) : Oct (four n) := oct_cons (by omega) (oct_cons (by omega) (oct_cons (by omega) (oct_cons (by omega) oct_nil)))
theorem oct_eight (i : Int) : Oct (eight i) := oct_app (oct_four _) (oct_four _)
theorem oct_list {α : Type} {f : α → Bytes} (h : ∀ x, Oct (f x)) (l : List α) : Oct (listOut f l) := by
  refine oct_app (oct_two _) ?_
  intro x hx
  obtain ⟨y, _, hy⟩ := List.mem_flatMap.mp hx
  exact h y x hy
theorem oct_opt {α : Type} {f : α → Bytes} (h : ∀ x, Oct (f x)) (o : Option α) : Oct (optionOut f o) := by
  cases o with
  | none => exact oct_cons (by omega) oct_nil
  | some a => exact oct_cons (by omega) (h a)
theorem oct_flag (b : Bool) : Oct (flagOut b) := oct_cons (by cases b <;> simp) oct_nil
theorem oct_task (x : GivenTask) : Oct (taskBytes x) := oct_app (oct_one _) (oct_app (oct_list oct_one _) (oct_list (fun _ => oct_list oct_eight _) _))
theorem oct_given (x : GivenPlan) : Oct (givenBytes x) := oct_app (oct_list oct_one _) (oct_opt oct_one _)
theorem oct_call (c : Call) : Oct (callBytes c) := by
  cases c <;> refine oct_cons (by omega) ?_ <;> first | exact oct_nil | exact oct_task _ | exact oct_app (oct_task _) (oct_app (oct_given _) (oct_app (oct_one _) (oct_one _))) | exact oct_app (oct_task _) (oct_app (oct_one _) (oct_one _)) | exact oct_app (oct_task _) (oct_app (oct_given _) (oct_app (oct_one _) (oct_eight _))) | exact oct_app (oct_one _) (oct_flag _) | exact oct_app (oct_one _) (oct_one _)

theorem requests_read : RequestsRead := by
  intro b c
  have key : (GoesIn c ∧ b = octets (callBytes c)) ↔ GoesIn c ∧ b.map (fun x => x.toNat) = callBytes c := by
    constructor
    · rintro ⟨h, rfl⟩; exact ⟨h, octets_forth (oct_call c)⟩
    · rintro ⟨h, h2⟩; exact ⟨h, by rw [← h2, octets_back]⟩
  rw [key]
  cases b with
  | nil =>
    unfold commandOf
    constructor
    · intro h; simp at h
    · rintro ⟨_, h⟩; cases c <;> simp [callBytes] at h
  | cons a r =>
    rw [List.map_cons, ← call_iff _ _ (oct_map r)]
    unfold commandOf
    simp only
    constructor
    · intro h
      split at h
      · rename_i x hx
        cases h
        exact hx
      · simp at h
    · intro h
      rw [h]

theorem read_of {c : Call} (h : GoesIn c) : commandOf (octets (callBytes c)) = some c := (requests_read _ c).mpr ⟨h, rfl⟩
theorem step_of {w : Zz34Octets.St} {b : List UInt8} {c : Call} (h : commandOf b = some c) : Zz34Octets.step w b = ((run_ w c).1, octets (answerBytes (run_ w c).2)) := by
  unfold Zz34Octets.step; rw [h]
theorem step_go {w : Zz34Octets.St} {c : Call} (h : GoesIn c) : Zz34Octets.step w (octets (callBytes c)) = ((run_ w c).1, octets (answerBytes (run_ w c).2)) := step_of (read_of h)

theorem errors_change_nothing : ErrorsChangeNothing := by
  intro w b
  refine ⟨?_, ?_, fun c hc => step_of hc⟩
  · intro h
    unfold Zz34Octets.step; rw [h]; rfl
  · intro c e hc he
    rw [step_of hc, he]
    congr 1
    cases c <;> simp only [run_, telling, changing, reading, making] at he ⊢
    all_goals first | rfl | skip
    all_goals (cases w <;> (try simp only at he ⊢))
    all_goals (split at he <;> simp_all)
end MineM
namespace MineM
open Askfirst Zz34Law

theorem isTask_iff (x : GivenTask) : isTask x = true ↔ AreTastes x := by
  unfold isTask AreTastes mostUnit mostTastes mostActions mostReward
  simp only [Bool.and_eq_true, decide_eq_true_eq, beq_iff_eq, List.all_eq_true]
  constructor
  · rintro ⟨⟨a1, a2⟩, ⟨a3, a4⟩, a5, a6, a7⟩
    refine ⟨⟨a1, a2⟩, ⟨a3, a4⟩, a5, a6, (x.rewards.headD []).length, ?_, ?_⟩
    · cases h : x.rewards with
      | nil => rw [h] at a6; simp at a6; omega
      | cons r l =>
        have := a7 r (by rw [h]; simp)
        exact this.1
    · intro l hl
      have := a7 l hl
      exact ⟨this.2.1, this.2.2⟩
  · rintro ⟨⟨a1, a2⟩, ⟨a3, a4⟩, a5, a6, n, ⟨b1, b2⟩, a7⟩
    refine ⟨⟨a1, a2⟩, ⟨a3, a4⟩, a5, a6, ?_⟩
    intro l hl
    obtain ⟨h1, h2⟩ := a7 l hl
    refine ⟨by omega, ?_, h2⟩
    cases h : x.rewards with
    | nil => rw [h] at hl; simp at hl
    | cons r l' =>
      have := (a7 r (by rw [h]; simp)).1
      show l.length = r.length
      omega

theorem case_for {x : GivenTask} (h : AreTastes x) : IsCaseFor x (caseOf x) := by
  refine ⟨h, rfl, ?_, fun _ => rfl, ?_⟩
  · unfold actionsIn caseOf
    cases x.rewards <;> simp
  · intro t a
    unfold rewardAt caseOf
    simp only [List.getD, List.getElem?_map]
    cases x.rewards[t]? with
    | none => simp
    | some l =>
      simp only [Option.map_some, Option.getD_some, List.getElem?_map]
      cases l[a]? <;> simp

theorem acts_of {x : GivenTask} (h : AreTastes x) : actionsIn (caseOf x) = (x.rewards.headD []).length := (case_for h).2.2.1
theorem acts_le {x : GivenTask} (h : AreTastes x) : actionsIn (caseOf x) ≤ 4 := by
  rw [acts_of h]
  obtain ⟨_, ⟨a3, a4⟩, _, a6, n, ⟨b1, b2⟩, a7⟩ := h
  cases h : x.rewards with
  | nil => simp
  | cons r l =>
    have := (a7 r (by rw [h]; simp)).1
    show r.length ≤ 4
    omega
theorem is_case {x : GivenTask} (h : AreTastes x) : IsCaseOf (caseOf x) := ⟨h.1.1, h.2.2.1, h.2.1.1⟩

theorem diff_iff : ∀ l : List Nat, areDifferent l = true ↔ l.Nodup
  | [] => by simp [areDifferent]
  | a :: l => by
    unfold areDifferent
    rw [Bool.and_eq_true, diff_iff l, List.nodup_cons]
    simp

theorem plan_iff (z : Case) (y : GivenPlan) : isPlanFor z y = true ↔ IsPlan z ⟨y.asks, y.ending⟩ := by
  unfold isPlanFor IsPlan
  rw [Bool.and_eq_true, Bool.and_eq_true, diff_iff, List.all_eq_true]
  simp only [decide_eq_true_eq]
  cases y.ending <;> simp

/-! results -/
theorem prov_ok {β : Type} {b : Bool} {e : Fail} {r : Did β} {o : β} (h : provided b e r = .ok o) : b = true ∧ r = .ok o := by
  unfold provided at h
  split at h
  · exact ⟨by assumption, h⟩
  · cases h
theorem task_ok {β : Type} {x : GivenTask} {f : Case → Did β} {o : β} (h : inTask x f = .ok o) : AreTastes x ∧ f (caseOf x) = .ok o := by
  unfold inTask orFail caseFrom at h
  by_cases k : isTask x = true
  · rw [if_pos k] at h; exact ⟨(isTask_iff x).mp k, h⟩
  · rw [if_neg k] at h; cases h
theorem plan_ok {β : Type} {z : Case} {x : GivenPlan} {f : Plan → Did β} {o : β} (h : inPlan z x f = .ok o) : IsPlan z ⟨x.asks, x.ending⟩ ∧ f ⟨x.asks, x.ending⟩ = .ok o := by
  unfold inPlan orFail planFrom at h
  by_cases k : isPlanFor z x = true
  · rw [if_pos k] at h; exact ⟨(plan_iff z x).mp k, h⟩
  · rw [if_neg k] at h; cases h
theorem chance_ok {β : Type} {e : Nat} {r : Did β} {o : β} (h : withChance e r = .ok o) : e ≤ 100 ∧ r = .ok o := by
  have := prov_ok h
  simpa using this
theorem cost_ok {β : Type} {e : Nat} {r : Did β} {o : β} (h : withCost e r = .ok o) : e ≤ 99 ∧ r = .ok o := by
  have := prov_ok h
  simpa using this
theorem level_ok {β : Type} {e : Int} {r : Did β} {o : β} (h : withLevel e r = .ok o) : (-99 ≤ e ∧ e ≤ 99) ∧ r = .ok o := by
  obtain ⟨h1, h2⟩ := prov_ok h
  rw [Bool.and_eq_true, decide_eq_true_eq, decide_eq_true_eq] at h1
  exact ⟨h1, h2⟩

theorem task_go {β : Type} {x : GivenTask} {f : Case → Did β} (h : AreTastes x) : inTask x f = f (caseOf x) := by
  unfold inTask orFail caseFrom
  rw [if_pos ((isTask_iff x).mpr h)]
theorem task_no {β : Type} {x : GivenTask} {f : Case → Did β} (h : ¬ AreTastes x) : inTask x f = .error .task := by
  unfold inTask orFail caseFrom
  rw [if_neg (fun k => h ((isTask_iff x).mp k))]
theorem plan_go {β : Type} {z : Case} {x : GivenPlan} {f : Plan → Did β} (h : IsPlan z ⟨x.asks, x.ending⟩) : inPlan z x f = f ⟨x.asks, x.ending⟩ := by
  unfold inPlan orFail planFrom
  rw [if_pos ((plan_iff z x).mpr h)]
theorem plan_no {β : Type} {z : Case} {x : GivenPlan} {f : Plan → Did β} (h : ¬ IsPlan z ⟨x.asks, x.ending⟩) : inPlan z x f = .error .plan := by
  unfold inPlan orFail planFrom
  rw [if_neg (fun k => h ((plan_iff z x).mp k))]
theorem prov_go {β : Type} {b : Bool} {e : Fail} {r : Did β} (h : b = true) : provided b e r = r := by unfold provided; rw [if_pos h]
theorem prov_no {β : Type} {b : Bool} {e : Fail} {r : Did β} (h : b = false) : provided b e r = .error e := by unfold provided; rw [h]; rfl
theorem chance_go {β : Type} {e : Nat} {r : Did β} (h : e ≤ 100) : withChance e r = r := prov_go (by simpa using h)
theorem chance_no {β : Type} {e : Nat} {r : Did β} (h : 100 < e) : withChance e r = .error .chance := prov_no (by simpa using h)
theorem cost_go {β : Type} {e : Nat} {r : Did β} (h : e ≤ 99) : withCost e r = r := prov_go (by simpa using h)
theorem cost_no {β : Type} {e : Nat} {r : Did β} (h : 99 < e) : withCost e r = .error .cost := prov_no (by simpa using h)
theorem level_go {β : Type} {e : Int} {r : Did β} (h : -99 ≤ e) (h2 : e ≤ 99) : withLevel e r = r := prov_go (by rw [Bool.and_eq_true, decide_eq_true_eq, decide_eq_true_eq]; exact ⟨h, h2⟩)
theorem level_no {β : Type} {e : Int} {r : Did β} (h : e < -99 ∨ 99 < e) : withLevel e r = .error .level := prov_no (by rw [Bool.and_eq_false_iff, decide_eq_false_iff_not, decide_eq_false_iff_not]; unfold mostReward; omega)

theorem ok_of {d : Did Told} {a : List UInt8} (h : octets (answerBytes d) = 0 :: a) : ∃ o, d = .ok o ∧ a = octets (toldBytes o) := by
  cases d with
  | error e => unfold answerBytes octets at h; simp at h
  | ok o =>
    refine ⟨o, rfl, ?_⟩
    unfold answerBytes octets at h
    simp at h
    exact h.symm

/-! reachable -/
def Gd (v : Talk) : Prop := IsCaseOf v.about ∧ actionsIn v.about ≤ 4 ∧ IsPlan v.about ⟨proposed v, none⟩
def Inv (w : Zz34Octets.St) : Prop := ∀ u, w = some u → Gd u.now ∧ ∀ v ∈ u.past, Gd v

theorem inv_some {u : Kept} (h : Gd u.now ∧ ∀ v ∈ u.past, Gd v) : Inv (some u) := by
  intro v e
  cases e
  exact h

theorem decided_iff (v : Talk) : isDecided v = false ↔ ∀ j : Nat, (j, true) ∉ v.answers := by
  unfold isDecided
  rw [← Bool.not_eq_true, List.any_eq_true]
  constructor
  · intro h j hj
    exact h ⟨(j, true), hj, rfl⟩
  · rintro h ⟨⟨j, y⟩, hj, e⟩
    simp only at e
    subst e
    exact h j hj
theorem contains_iff (v : Talk) (k : Nat) : (proposed v).contains k = false ↔ ∀ z : Bool, (k, z) ∉ v.answers := by
  unfold proposed
  rw [← Bool.not_eq_true, List.contains_iff_mem, List.mem_map]
  constructor
  · intro h z hz
    exact h ⟨(k, z), hz, rfl⟩
  · rintro h ⟨⟨j, y⟩, hj, e⟩
    simp only at e
    subst e
    exact h y hj

theorem gd_new {x : GivenTask} (h : AreTastes x) : Gd (newTalk (caseOf x)) := ⟨is_case h, acts_le h, by
  refine ⟨?_, ?_, ?_⟩ <;> simp [proposed, newTalk]⟩

theorem propose_ok {u : Kept} {a : Nat} {y : Bool} {r : Kept × Told} (h : proposeFn u a y = .ok r) :
    a < actionsIn u.now.about ∧ isDecided u.now = false ∧ (proposed u.now).contains a = false ∧ r = (movedTo u (afterAnswer u.now a y), .count (tastesLeft (afterAnswer u.now a y)).length) := by
  unfold proposeFn at h
  obtain ⟨h1, h⟩ := prov_ok h
  obtain ⟨h2, h⟩ := prov_ok h
  obtain ⟨h3, h⟩ := prov_ok h
  cases h
  exact ⟨by simpa using h1, by simpa using h2, by simpa using h3, rfl⟩

theorem gd_after {v : Talk} {a : Nat} {y : Bool} (h : Gd v) (h1 : a < actionsIn v.about) (h2 : (proposed v).contains a = false) : Gd (afterAnswer v a y) := by
  obtain ⟨g1, g2, g3, g4, g5⟩ := h
  have e : proposed (afterAnswer v a y) = proposed v ++ [a] := by simp [proposed, afterAnswer]
  have hn : a ∉ proposed v := by
    intro hc
    rw [← List.contains_iff_mem, h2] at hc
    cases hc
  refine ⟨g1, g2, ?_, ?_, ?_⟩
  · show (proposed (afterAnswer v a y)).Nodup
    rw [e]
    refine List.nodup_append.mpr ⟨g3, by simp, ?_⟩
    intro b hb c hc
    have : c = a := by simpa using hc
    subst this
    rintro rfl
    exact hn hb
  · intro b hb
    have hb' : b ∈ proposed (afterAnswer v a y) := hb
    rw [e] at hb'
    rcases List.mem_append.mp hb' with hb' | hb'
    · exact g4 b hb'
    · have : b = a := by simpa using hb'
      subst this
      exact h1
  · intro b hb
    cases hb

theorem run_inv {w : Zz34Octets.St} (h : Inv w) (c : Call) : Inv (run_ w c).1 := by
  cases c with
  | sure x y e c => exact h
  | best x e c => exact h
  | worth x a c => exact h
  | upTo x y c m => exact h
  | make x =>
    show Inv (making w (openFn x)).1
    unfold making openFn
    by_cases k : AreTastes x
    · rw [task_go k]
      exact inv_some ⟨gd_new k, by simp⟩
    · rw [task_no k]; exact h
  | propose a y =>
    show Inv (changing w fun u => proposeFn u a y).1
    unfold changing
    cases w with
    | none => exact h
    | some u =>
      simp only
      cases k : proposeFn u a y with
      | error e => exact h
      | ok r =>
        obtain ⟨h1, h2, h3, rfl⟩ := propose_ok k
        have g := h u rfl
        refine inv_some ⟨gd_after g.1 h1 h3, ?_⟩
        intro v hv
        rcases List.mem_cons.mp hv with rfl | hv
        · exact g.1
        · exact g.2 v hv
  | advice e c =>
    show Inv (reading w fun u => adviceFn u e c).1
    unfold reading
    cases w <;> exact h
  | undo =>
    show Inv (changing w undoFn).1
    unfold changing
    cases w with
    | none => exact h
    | some u =>
      simp only
      have g := h u rfl
      unfold undoFn
      cases k : u.past with
      | nil => exact h
      | cons v r =>
        rw [k] at g
        exact inv_some ⟨g.2 v (by simp), fun v' hv' => g.2 v' (by simp [hv'])⟩
  | answers =>
    show Inv (reading w answersFn).1
    unfold reading
    cases w <;> exact h
  | tastes =>
    show Inv (reading w tastesFn).1
    unfold reading
    cases w <;> exact h

theorem step_inv {w : Zz34Octets.St} (h : Inv w) (b : List UInt8) : Inv (Zz34Octets.step w b).1 := by
  unfold Zz34Octets.step
  cases commandOf b with
  | none => exact h
  | some c => exact run_inv h c

theorem behind_inv : ∀ (l : List (List UInt8)) (w : Zz34Octets.St), Inv w → Inv (behind w l)
  | [], w, h => h
  | b :: l, w, h => behind_inv l _ (step_inv h b)

theorem reach {l : List (List UInt8)} {w : Zz34Octets.St} (h : w = behind Zz34Octets.start l) : Inv w := by
  subst h
  refine behind_inv l _ ?_
  intro u hu
  cases hu

/-! levels -/
theorem down_filter (P : Nat → Bool) (hP : ∀ n, P (n + 1) = true → P n = true) : ∀ N : Nat, ((List.range N).filter P).length ≤ N ∧ ∀ n, n < N → (P n = true ↔ n < ((List.range N).filter P).length)
  | 0 => by simp
  | N + 1 => by
    obtain ⟨h1, h2⟩ := down_filter P hP N
    rw [List.range_succ, List.filter_append, List.length_append]
    by_cases k : P N = true
    · have e : (List.filter P [N]).length = 1 := by simp [k]
      have all : ∀ j n, j + n = N → P n = true := by
        intro j
        induction j with
        | zero => intro n hn; have : n = N := by omega
                  subst this; exact k
        | succ j ih => intro n hn; exact hP n (ih (n + 1) (by omega))
      have full : ((List.range N).filter P).length = N := by
        cases N with
        | zero => simp
        | succ M =>
          have := (h2 M (by omega)).mp (all 1 M (by omega))
          omega
      rw [e, full]
      refine ⟨by omega, ?_⟩
      intro n hn
      exact ⟨fun _ => hn, fun _ => all (N - n) n (by omega)⟩
    · have e : (List.filter P [N]).length = 0 := by simp [k]
      rw [e]
      refine ⟨by omega, ?_⟩
      intro n hn
      by_cases hN : n = N
      · subst hN
        constructor
        · intro q; exact absurd q k
        · intro q; exfalso; omega
      · exact h2 n (by omega)

theorem chance_pct {n : Nat} (h : n ≤ 100) : IsChance (percent n) := by
  unfold percent IsChance
  have h1 : (n : Rat) ≤ ((100 : Nat) : Rat) := Rat.natCast_le_natCast.mpr h
  have h0 := nat_nonneg n
  have e : ((100 : Nat) : Rat) = 100 := rfl
  rw [e] at h1
  constructor
  · refine (le_div (by decide)).mpr ?_
    grind
  · refine Rat.not_lt.mp fun k => ?_
    have k2 := Rat.mul_lt_mul_of_pos_right k (show (0 : Rat) < 100 by decide)
    have e2 : (n : Rat) / 100 * 100 = n := by
      rw [Rat.div_def, Rat.mul_assoc, Rat.inv_mul_cancel _ (by decide), Rat.mul_one]
    rw [e2] at k2
    grind

theorem pct_le {n m : Nat} (h : n ≤ m) : percent n ≤ percent m := by
  unfold percent
  rw [Rat.div_def, Rat.div_def]
  exact Rat.mul_le_mul_of_nonneg_right (Rat.natCast_le_natCast.mpr h) (inv_nonneg' (by decide))

theorem error_for (z : Case) (c : Rat) (p : Plan) (m : Rat) : errorFor z c p m ≤ 101 ∧ ∀ n, n ≤ 100 → (m ≤ sureOf z (percent n) c p ↔ n < errorFor z c p m) := by
  have h := down_filter (fun n => decide (n ≤ 100 ∧ m ≤ sureOf z (percent n) c p)) (by
    intro n hn
    simp only [decide_eq_true_eq] at hn ⊢
    obtain ⟨h1, h2⟩ := hn
    refine ⟨by omega, ?_⟩
    have := sure_fall (z := z) (p := p) (c := c) (d := c) (chance_pct (n := n) (by omega)) (chance_pct h1) (pct_le (by omega)) (by grind)
    grind) 101
  have e : (List.range 101).filter (fun n => decide (n ≤ 100 ∧ m ≤ sureOf z (percent n) c p)) = (List.range 101).filter (fun n => decide (m ≤ sureOf z (percent n) c p)) := by
    apply List.filter_congr
    intro n hn
    have : n ≤ 100 := by have := List.mem_range.mp hn; omega
    simp [this]
  rw [e] at h
  refine ⟨h.1, ?_⟩
  intro n hn
  have := h.2 n (by omega)
  simp only [decide_eq_true_eq] at this
  rw [show (m ≤ sureOf z (percent n) c p ↔ (n ≤ 100 ∧ m ≤ sureOf z (percent n) c p)) by simp [hn]]
  exact this

theorem hard_vals (z : Case) (e c : Rat) (p : Plan) (t : Nat) (h : List Nat) (a : Nat) : hardest z e c p t h a = 0 ∨ hardest z e c p t h a = e ∨ hardest z e c p t h a = 1 - e ∨ hardest z e c p t h a = 1 := by
  unfold hardest hardStep
  split <;> split <;> simp

theorem chance0 : IsChance 0 := by unfold IsChance; constructor <;> decide

theorem main_promise : MainPromise := by
  intro l w b a hw hs
  have inv := reach hw
  refine ⟨?_, ?_, ?_, ?_, ?_⟩
  · intro x y e c hc
    rw [step_of hc] at hs
    obtain ⟨o, ho, rfl⟩ := ok_of hs
    have ho : sureFn x y e c = .ok o := ho
    obtain ⟨h1, ho⟩ := task_ok ho
    obtain ⟨h2, ho⟩ := plan_ok ho
    obtain ⟨h3, ho⟩ := chance_ok ho
    obtain ⟨h4, ho⟩ := cost_ok ho
    cases ho
    have he := chance_pct h3
    exact ⟨caseOf x, ⟨y.asks, y.ending⟩, _, hardest (caseOf x) (percent e) (costOf c) ⟨y.asks, y.ending⟩, case_for h1, ⟨h2, rfl⟩, ⟨h3, h4⟩, rfl, is_sure he, hard_errs he, hard_is_sure, fun t i => hard_vals _ _ _ _ _ _ _⟩
  · intro x e c hc
    rw [step_of hc] at hs
    obtain ⟨o, ho, rfl⟩ := ok_of hs
    have ho : bestFn x e c = .ok o := ho
    obtain ⟨h1, ho⟩ := task_ok ho
    obtain ⟨h3, ho⟩ := chance_ok ho
    obtain ⟨h4, ho⟩ := cost_ok ho
    cases ho
    have he := chance_pct h3
    refine ⟨caseOf x, bestPlan (caseOf x) (percent e) (costOf c), _, case_for h1, ⟨h3, h4⟩, rfl, best_plan_ok _ _ _, is_sure he, ?_⟩
    intro q hq
    refine ⟨hardest (caseOf x) (percent e) (costOf c) q, hard_errs he, ?_⟩
    have e1 := hard_is_sure (z := caseOf x) (e := percent e) (c := costOf c) (p := q)
    rw [show ((c : Rat)) = costOf c from rfl, e1]
    exact best_plan_ge _ _ _ hq
  · intro e c hc
    rw [step_of hc] at hs
    obtain ⟨o, ho, rfl⟩ := ok_of hs
    have ho : (reading w fun u => adviceFn u e c).2 = .ok o := ho
    cases w with
    | none => cases ho
    | some u =>
      have ho : adviceFn u e c = .ok o := ho
      obtain ⟨h3, ho⟩ := chance_ok ho
      obtain ⟨h4, ho⟩ := cost_ok ho
      obtain ⟨h5, ho⟩ := prov_ok ho
      cases ho
      have he := chance_pct h3
      have g := (inv u rfl).1.2.2
      have bo := behind_ok u.now.about (percent e) (costOf c) g
      refine ⟨u, bestBehind u.now.about (percent e) (costOf c) (proposed u.now), _, rfl, (decided_iff _).mp (by simpa using h5), ⟨h3, h4⟩, rfl, bo, is_sure he, ?_⟩
      intro q hq hr
      refine ⟨hardest u.now.about (percent e) (costOf c) q, hard_errs he, ?_⟩
      have e1 := hard_is_sure (z := u.now.about) (e := percent e) (c := costOf c) (p := q)
      rw [show ((c : Rat)) = costOf c from rfl, e1]
      exact behind_ge _ _ _ hq hr
  · intro x k c hc
    rw [step_of hc] at hs
    obtain ⟨o, ho, rfl⟩ := ok_of hs
    have ho : worthFn x k c = .ok o := ho
    obtain ⟨h1, ho⟩ := task_ok ho
    obtain ⟨h3, ho⟩ := prov_ok ho
    obtain ⟨h4, ho⟩ := cost_ok ho
    cases ho
    have hz := is_case h1
    have e1 : sureOf (caseOf x) 0 0 (asking k) = goodOf (caseOf x) k := by
      rw [sure_asking hz chance0]; grind
    have g0 := good_nonneg (caseOf x) k
    have b0 := bad_nonneg (caseOf x) k
    refine ⟨caseOf x, goodOf (caseOf x) k, badOf (caseOf x) k, worthUpTo (caseOf x) (costOf c) k, case_for h1, ⟨by simpa using h3, h4⟩, rfl, ?_, ?_, ?_, ?_, ?_⟩
    · rw [← e1]; exact is_sure chance0
    · rw [← sure_acting _ 0 0]; exact is_sure chance0
    · intro h; unfold worthUpTo; rw [if_pos h]
    · intro y hy
      unfold worthUpTo at hy
      split at hy
      · cases hy
      · rename_i hn
        have hp : 0 < goodOf (caseOf x) k + badOf (caseOf x) k := by grind
        split at hy
        · cases hy
        · rename_i hb
          have := Option.some.inj hy
          subst this
          have c0 : 0 ≤ costOf c := nat_nonneg c
          constructor
          · exact (le_div hp).mpr (by grind)
          · refine Rat.not_lt.mp fun q => ?_
            have q2 := Rat.mul_lt_mul_of_pos_right q hp
            have e2 : (badOf (caseOf x) k - costOf c) / (goodOf (caseOf x) k + badOf (caseOf x) k) * (goodOf (caseOf x) k + badOf (caseOf x) k) = badOf (caseOf x) k - costOf c := by
              rw [Rat.div_def, Rat.mul_assoc, Rat.inv_mul_cancel _ hn, Rat.mul_one]
            rw [e2] at q2
            grind
    · intro hn e m n he hm hn2
      rw [sure_uniq he hm, sure_uniq he hn2]
      exact worth_iff hz he k hn
  · intro x y c m hc
    rw [step_of hc] at hs
    obtain ⟨o, ho, rfl⟩ := ok_of hs
    have ho : upToFn x y c m = .ok o := ho
    obtain ⟨h1, ho⟩ := task_ok ho
    obtain ⟨h2, ho⟩ := plan_ok ho
    obtain ⟨h4, ho⟩ := cost_ok ho
    obtain ⟨h5, ho⟩ := level_ok ho
    cases ho
    obtain ⟨k1, k2⟩ := error_for (caseOf x) (costOf c) ⟨y.asks, y.ending⟩ (m : Rat)
    refine ⟨caseOf x, ⟨y.asks, y.ending⟩, greatestOf (errorFor (caseOf x) (costOf c) ⟨y.asks, y.ending⟩ (m : Rat)), case_for h1, ⟨h2, rfl⟩, ⟨h4, h5.1, h5.2⟩, rfl, ?_, ?_⟩
    · intro k hk
      generalize errorFor (caseOf x) (costOf c) ⟨y.asks, y.ending⟩ (m : Rat) = E at *
      cases E with
      | zero => cases hk
      | succ E => cases hk; omega
    · intro n v hn hv
      rw [sure_uniq (chance_pct hn) hv]
      show _ ≤ sureOf _ (percent n) (costOf c) _ ↔ _
      rw [k2 n hn]
      generalize errorFor (caseOf x) (costOf c) ⟨y.asks, y.ending⟩ (m : Rat) = E at *
      cases E with
      | zero => simp [greatestOf]
      | succ E =>
        simp only [greatestOf, Option.some.injEq]
        constructor
        · intro q; exact ⟨E, rfl, by omega⟩
        · rintro ⟨k, rfl, q⟩; omega
end MineM
namespace MineM
open Askfirst Zz34Law

theorem run_ans (w : Zz34Octets.St) (c : Call) (d : Did Told) (a : List UInt8) (h : GoesIn c) (h1 : run_ w c = (w, d)) (h2 : octets (answerBytes d) = a) : Zz34Octets.step w (octets (callBytes c)) = (w, a) := by
  rw [step_go h, h1]
  simp only
  rw [h2]

theorem ok_bytes (o : Told) : octets (answerBytes (.ok o)) = 0 :: octets (toldBytes o) := rfl

theorem one_100 {e : Nat} (h : e ≤ 100) : isOne e := by unfold isOne; omega
theorem one_99 {e : Nat} (h : e ≤ 99) : isOne e := by unfold isOne; omega

theorem left_ok (z : Case) (l : List (Nat × Bool)) : AreLeft z l (tastesBehind z l) := by
  unfold AreLeft tastesBehind
  constructor
  · exact List.Pairwise.filter _ List.pairwise_lt_range
  · intro t
    rw [List.mem_filter, List.mem_range]
    unfold canBe
    rw [Bool.and_eq_true, decide_eq_true_eq, List.all_eq_true]
    constructor
    · rintro ⟨h1, h2, h3⟩
      refine ⟨h1, h2, ?_⟩
      intro a y hm
      have := h3 (a, y) hm
      unfold agrees at this
      rw [beq_iff_eq] at this
      simp only at this
      rw [← this, decide_eq_true_eq]
    · rintro ⟨h1, h2, h3⟩
      refine ⟨h1, h2, ?_⟩
      rintro ⟨a, y⟩ hm
      have := h3 a y hm
      unfold agrees
      rw [beq_iff_eq]
      simp only
      cases y
      · rw [decide_eq_false_iff_not]
        intro q
        have := this.mpr q
        cases this
      · rw [decide_eq_true_eq]
        exact this.mp rfl

theorem answered : Answered := by
  intro l w x hw hx hg
  have inv := reach hw
  have hg' : isGivenTask x := hg
  refine ⟨case_for hx, ?_, ?_, ?_, ?_, ?_, ?_⟩
  · rw [step_go hg]
    have : run_ w (.make x) = (some ⟨newTalk (caseOf x), []⟩, .ok .done) := by
      show making w (openFn x) = _
      unfold openFn
      rw [task_go hx]
      rfl
    rw [this]
    rfl
  · intro e c he hc
    have : run_ w (.best x e c) = (w, .ok (bestTold (caseOf x) (percent e) (costOf c))) := by
      show telling w (bestFn x e c) = _
      unfold bestFn
      rw [task_go hx, chance_go he, cost_go hc]
      rfl
    exact ⟨_, run_ans _ _ _ _ ⟨hg', one_100 he, one_99 hc⟩ this (ok_bytes _)⟩
  · intro k c hk hc
    have hk' : k < actionsIn (caseOf x) := by rw [acts_of hx]; exact hk
    have k4 := acts_le hx
    have : run_ w (.worth x k c) = (w, .ok (worthTold (caseOf x) (costOf c) k)) := by
      show telling w (worthFn x k c) = _
      unfold worthFn
      rw [task_go hx, prov_go (by simpa using hk'), cost_go hc]
      rfl
    exact ⟨_, run_ans _ _ _ _ ⟨hg', by unfold isOne; omega, one_99 hc⟩ this (ok_bytes _)⟩
  · intro y e c hgi hp he hc
    have : run_ w (.sure x y e c) = (w, .ok (sureTold (caseOf x) (percent e) (costOf c) ⟨y.asks, y.ending⟩)) := by
      show telling w (sureFn x y e c) = _
      unfold sureFn
      rw [task_go hx, plan_go hp, chance_go he, cost_go hc]
      rfl
    exact ⟨_, run_ans _ _ _ _ hgi this (ok_bytes _)⟩
  · intro y c m hgi hp hc hm1 hm2
    have : run_ w (.upTo x y c m) = (w, .ok (.percents (greatestOf (errorFor (caseOf x) (costOf c) ⟨y.asks, y.ending⟩ (m : Rat))))) := by
      show telling w (upToFn x y c m) = _
      unfold upToFn
      rw [task_go hx, plan_go hp, cost_go hc, level_go hm1 hm2]
      rfl
    exact ⟨_, run_ans _ _ _ _ hgi this (ok_bytes _)⟩
  · intro u hu
    subst hu
    have g := (inv u rfl).1
    refine ⟨⟨?_, ⟨tastesLeft u.now, left_ok _ _, ?_⟩, ?_⟩, ?_⟩
    · exact run_ans (some u) .answers (.ok (.answers u.now.answers)) _ trivial rfl rfl
    · exact run_ans (some u) .tastes (.ok (.tastes (tastesLeft u.now))) _ trivial rfl rfl
    · intro v r hv
      have : run_ (some u) .undo = (some ⟨v, r⟩, .ok .done) := by
        show changing (some u) undoFn = _
        unfold changing undoFn
        simp only [hv]
      have e := step_go (w := some u) (c := .undo) trivial
      rw [this] at e
      exact e
    · intro hd
      have hd' := (decided_iff u.now).mpr hd
      constructor
      · intro k y hk hn
        have k4 := g.2.1
        have : run_ (some u) (.propose k y) = (some (movedTo u (afterAnswer u.now k y)), .ok (.count (tastesLeft (afterAnswer u.now k y)).length)) := by
          show changing (some u) (fun u => proposeFn u k y) = _
          unfold changing proposeFn
          simp only
          rw [prov_go (by simpa using hk), prov_go (by rw [hd']; rfl), prov_go (by rw [(contains_iff _ _).mpr hn]; rfl)]
        refine ⟨tastesLeft (afterAnswer u.now k y), left_ok _ _, ?_⟩
        rw [step_go (c := .propose k y) ⟨by unfold isOne; omega, trivial⟩, this]
        rfl
      · intro e c he hc
        have : run_ (some u) (.advice e c) = (some u, .ok (adviceTold u.now (percent e) (costOf c))) := by
          show reading (some u) (fun u => adviceFn u e c) = _
          unfold reading adviceFn
          simp only
          rw [chance_go he, cost_go hc, prov_go (by rw [hd']; rfl)]
        exact ⟨_, run_ans _ _ _ _ ⟨one_100 he, one_99 hc⟩ this (ok_bytes _)⟩

theorem says_of {w : Zz34Octets.St} {c : Call} {e : Fail} {n : UInt8} (h : GoesIn c) (h1 : run_ w c = (w, .error e)) (h2 : octets (failOut e) = [n]) : Says w c n := by
  unfold Says
  refine run_ans _ _ _ _ h h1 ?_
  show (UInt8.ofNat 1) :: octets (failOut e) = [1, n]
  rw [h2]
  rfl

theorem refused : Refused := by
  intro l w x y k e c m v hw hg hm hk
  obtain ⟨hx, hy, he, hc⟩ := hg
  have inv := reach hw
  refine ⟨?_, ?_, ?_, ?_⟩
  · intro h
    refine ⟨says_of (e := .task) hx ?_ rfl, says_of (e := .task) ⟨hx, hy, he, hc⟩ ?_ rfl, says_of (e := .task) ⟨hx, he, hc⟩ ?_ rfl, says_of (e := .task) ⟨hx, hk, hc⟩ ?_ rfl, says_of (e := .task) ⟨hx, hy, hc, hm⟩ ?_ rfl⟩
    · show making w (openFn x) = _
      unfold openFn; rw [task_no h]; rfl
    · show telling w (sureFn x y e c) = _
      unfold sureFn; rw [task_no h]; rfl
    · show telling w (bestFn x e c) = _
      unfold bestFn; rw [task_no h]; rfl
    · show telling w (worthFn x k c) = _
      unfold worthFn; rw [task_no h]; rfl
    · show telling w (upToFn x y c m) = _
      unfold upToFn; rw [task_no h]; rfl
  · intro h
    refine ⟨?_, ?_, ?_, ?_, ?_, ?_⟩
    · intro hp
      refine ⟨says_of (e := .plan) ⟨hx, hy, he, hc⟩ ?_ rfl, says_of (e := .plan) ⟨hx, hy, hc, hm⟩ ?_ rfl⟩
      · show telling w (sureFn x y e c) = _
        unfold sureFn; rw [task_go h, plan_no hp]; rfl
      · show telling w (upToFn x y c m) = _
        unfold upToFn; rw [task_go h, plan_no hp]; rfl
    · intro hp
      refine ⟨?_, ?_, ?_, ?_⟩
      · intro h1
        refine says_of (e := .chance) ⟨hx, hy, he, hc⟩ ?_ rfl
        show telling w (sureFn x y e c) = _
        unfold sureFn; rw [task_go h, plan_go hp, chance_no h1]; rfl
      · intro h1 h2
        refine says_of (e := .cost) ⟨hx, hy, he, hc⟩ ?_ rfl
        show telling w (sureFn x y e c) = _
        unfold sureFn; rw [task_go h, plan_go hp, chance_go h1, cost_no h2]; rfl
      · intro h2
        refine says_of (e := .cost) ⟨hx, hy, hc, hm⟩ ?_ rfl
        show telling w (upToFn x y c m) = _
        unfold upToFn; rw [task_go h, plan_go hp, cost_no h2]; rfl
      · intro h2 h3
        refine says_of (e := .level) ⟨hx, hy, hc, hm⟩ ?_ rfl
        show telling w (upToFn x y c m) = _
        unfold upToFn; rw [task_go h, plan_go hp, cost_go h2, level_no h3]; rfl
    · intro h1
      refine says_of (e := .chance) ⟨hx, he, hc⟩ ?_ rfl
      show telling w (bestFn x e c) = _
      unfold bestFn; rw [task_go h, chance_no h1]; rfl
    · intro h1 h2
      refine says_of (e := .cost) ⟨hx, he, hc⟩ ?_ rfl
      show telling w (bestFn x e c) = _
      unfold bestFn; rw [task_go h, chance_go h1, cost_no h2]; rfl
    · intro h1
      refine says_of (e := .action) ⟨hx, hk, hc⟩ ?_ rfl
      show telling w (worthFn x k c) = _
      unfold worthFn; rw [task_go h, prov_no (by rw [acts_of h]; simpa using h1)]; rfl
    · intro h1 h2
      refine says_of (e := .cost) ⟨hx, hk, hc⟩ ?_ rfl
      show telling w (worthFn x k c) = _
      unfold worthFn; rw [task_go h, prov_go (by rw [acts_of h]; simpa using h1), cost_no h2]; rfl
  · intro h
    subst h
    exact ⟨says_of (e := .noTalk) ⟨hk, trivial⟩ rfl rfl, says_of (e := .noTalk) ⟨he, hc⟩ rfl rfl, says_of (c := .undo) (e := .noTalk) trivial rfl rfl, says_of (c := .answers) (e := .noTalk) trivial rfl rfl, says_of (c := .tastes) (e := .noTalk) trivial rfl rfl⟩
  · intro u hu
    subst hu
    refine ⟨?_, ?_, ?_, ?_, ?_, ?_, ?_⟩
    · intro h
      refine says_of (e := .action) ⟨hk, trivial⟩ ?_ rfl
      show changing (some u) (fun u => proposeFn u k v) = _
      unfold changing proposeFn
      simp only
      rw [prov_no (by simpa using h)]
    · intro h h1
      refine says_of (e := .decided) ⟨hk, trivial⟩ ?_ rfl
      show changing (some u) (fun u => proposeFn u k v) = _
      unfold changing proposeFn
      simp only
      have hd : isDecided u.now = true := by
        cases q : isDecided u.now with
        | true => rfl
        | false =>
          obtain ⟨j, hj⟩ := h1
          exact absurd hj ((decided_iff _).mp q j)
      rw [prov_go (by simpa using h), prov_no (by rw [hd]; rfl)]
    · intro h h1
      by_cases h2 : k < actionsIn u.now.about
      · refine says_of (e := .again) ⟨hk, trivial⟩ ?_ rfl
        show changing (some u) (fun u => proposeFn u k v) = _
        unfold changing proposeFn
        simp only
        have hd : (proposed u.now).contains k = true := by
          cases q : (proposed u.now).contains k with
          | true => rfl
          | false =>
            obtain ⟨j, hj⟩ := h1
            exact absurd hj ((contains_iff _ _).mp q j)
        rw [prov_go (by simpa using h2), prov_go (by rw [(decided_iff _).mpr h]; rfl), prov_no (by rw [hd]; rfl)]
      · exfalso
        obtain ⟨j, hj⟩ := h1
        have g := (inv u rfl).1.2.2.2.1 k (List.mem_map.mpr ⟨(k, j), hj, rfl⟩)
        exact h2 g
    · intro h
      refine says_of (e := .chance) ⟨he, hc⟩ ?_ rfl
      show reading (some u) (fun u => adviceFn u e c) = _
      unfold reading adviceFn
      simp only
      rw [chance_no h]
    · intro h h2
      refine says_of (e := .cost) ⟨he, hc⟩ ?_ rfl
      show reading (some u) (fun u => adviceFn u e c) = _
      unfold reading adviceFn
      simp only
      rw [chance_go h, cost_no h2]
    · intro h h2 h1
      refine says_of (e := .decided) ⟨he, hc⟩ ?_ rfl
      show reading (some u) (fun u => adviceFn u e c) = _
      unfold reading adviceFn
      simp only
      have hd : isDecided u.now = true := by
        cases q : isDecided u.now with
        | true => rfl
        | false =>
          obtain ⟨j, hj⟩ := h1
          exact absurd hj ((decided_iff _).mp q j)
      rw [chance_go h, cost_go h2, prov_no (by rw [hd]; rfl)]
    · intro h
      refine says_of (c := .undo) (e := .nothing) trivial ?_ rfl
      show changing (some u) undoFn = _
      unfold changing undoFn
      simp only [h]
end MineM
theorem PySem.Challenge.cw_askfirst_m01_mainlaw_law : Zz34Law.MainLaw :=
  ⟨rfl, MineM.main_promise, MineM.answered, MineM.refused, MineM.main_thm, MineM.requests_read, MineM.errors_change_nothing⟩
