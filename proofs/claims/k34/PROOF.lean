import PyProof.Rows.All
import Wide.All
import OpenK.AllK
import Wide.FinOn
import HandS.ForMost
import HandS.ForExc
import HandS.ExcIs
import HandS.ExcOwn
import HandS.WordsExc
import HandS.TryMany
import HandS.TryOnly
import HandS.Codes
import HandS.IsInst
import HandS.TupAny
import HandS.TupMul
import HandS.SortKw
import KE.KMinKey
import PyProof.WalksMore
import HandS.Dict
import HandS.Style
import HandS.Conv
import HandS.Walk
import HandS.Zip
import PyProof.AutoSeq1
import HandS.Text
import HandS.SetFor
import HandS.Strs
import HandS.Star
import KE.GoesMore
import HandS.Iter
import PySem.Challenge.RW_reactivesynth_k34_game_and_distances
set_option Elab.async false
set_option linter.all false
set_option maxRecDepth 100000
set_option maxHeartbeats 4000000
/-! Distances in a game: a walk through a queue finds the levels, and so do rounds. Plain mathematics. -/
namespace Bf
section
variable (own : Nat → Bool) (mv : Nat → List Nat) (ts : Nat → Prop)
def Cond (S : Nat → Prop) (k : Nat) : Prop := (own k = true ∧ ∃ t ∈ mv k, S t) ∨ (own k = false ∧ ∀ t ∈ mv k, S t)
/-- what can be forced within t moves -/
def A : Nat → Nat → Prop
  | 0, k => ts k
  | t + 1, k => A t k ∨ Cond own mv (A t) k
def Lev (k : Nat) (v : Int) : Prop := (v = -1 ∧ ∀ t, ¬ A own mv ts t k) ∨ ∃ t : Nat, v = (t : Int) ∧ A own mv ts t k ∧ ∀ s, s < t → ¬ A own mv ts s k
end
variable {own : Nat → Bool} {mv : Nat → List Nat} {ts : Nat → Prop} {n : Nat}
theorem Cond.mono {S S' : Nat → Prop} {k : Nat} (h : Cond own mv S k) (hs : ∀ t, t ∈ mv k → S t → S' t) : Cond own mv S' k := by
  rcases h with ⟨a, t, ht, hS⟩ | ⟨a, hall⟩
  · exact .inl ⟨a, t, ht, hs t ht hS⟩
  · exact .inr ⟨a, fun t ht => hs t ht (hall t ht)⟩
theorem Lev.uniq {k : Nat} {v v' : Int} (h : Lev own mv ts k v) (h' : Lev own mv ts k v') : v = v' := by
  rcases h with ⟨a, b⟩ | ⟨t, a, b, c⟩
  · rcases h' with ⟨a', _⟩ | ⟨t', _, b', _⟩
    · rw [a, a']
    · exact absurd b' (b t')
  · rcases h' with ⟨_, b'⟩ | ⟨t', a', b', c'⟩
    · exact absurd b (b' t)
    · have : t = t' := by
        rcases Nat.lt_trichotomy t t' with y | y | y
        · exact absurd b (c' t y)
        · exact y
        · exact absurd b' (c t' y)
      rw [a, a', this]
/-- the queue w while positions of level d are gone through -/
structure M (own : Nat → Bool) (mv : Nat → List Nat) (ts : Nat → Prop) (n : Nat) (w : List Nat) (f : Nat → Int) (d : Nat) : Prop where
  nd : w.Nodup
  lt : ∀ k, k ∈ w → k < n
  neg : ∀ k, k < n → k ∉ w → f k = -1
  lev : ∀ k, k ∈ w → ∃ t : Nat, f k = (t : Int) ∧ A own mv ts t k ∧ (∀ s, s < t → ¬ A own mv ts s k) ∧ t ≤ d + 1
  mono : w.Pairwise fun a b => f a ≤ f b
  idx : ∀ (j k : Nat), w[j]? = some k → f k ≤ (j : Int)
  low : ∀ k, k < n → ∀ t, t ≤ d → A own mv ts t k → k ∈ w
theorem M.add {w : List Nat} {f : Nat → Int} {d k at_ : Nat} {S : Nat → Prop} (h : M own mv ts n w f d) (hk : k < n) (hkw : k ∉ w) (hc : Cond own mv S k) (hS : ∀ t, t ∈ mv k → S t → A own mv ts d t) {p : Nat} (hp : w[at_]? = some p) (hd : f p = (d : Int)) :
    M own mv ts n (w ++ [k]) (fun t => if t = k then ((d + 1 : Nat) : Int) else f t) d := by
  have hal : at_ < w.length := (List.getElem?_eq_some_iff.mp hp).1
  have hda : d ≤ at_ := by have := h.idx _ _ hp; omega
  have nk : ∀ t, t ∈ w → t ≠ k := fun t ht z => hkw (z ▸ ht)
  refine ⟨List.nodup_append.mpr ⟨h.nd, by simp, fun a ha b hb => by rw [List.mem_singleton.mp hb]; exact nk a ha⟩, fun t ht => ?_, fun t ht hn => ?_, fun t ht => ?_, ?_, fun j t hj => ?_, fun t ht s hs hA => List.mem_append_left _ (h.low t ht s hs hA)⟩
  · rcases List.mem_append.mp ht with y | y
    · exact h.lt t y
    · rw [List.mem_singleton.mp y]; exact hk
  · have h1 : t ∉ w := fun y => hn (List.mem_append_left _ y)
    have h2 : t ≠ k := fun y => hn (List.mem_append_right _ (by rw [y]; exact List.mem_singleton_self _))
    rw [if_neg h2]
    exact h.neg t ht h1
  · rcases List.mem_append.mp ht with y | y
    · rw [if_neg (nk t y)]
      exact h.lev t y
    · rw [List.mem_singleton.mp y, if_pos rfl]
      exact ⟨d + 1, rfl, .inr (hc.mono hS), fun s hs hA => hkw (h.low k hk s (by omega) hA), Nat.le_refl _⟩
  · refine List.pairwise_append.mpr ⟨?_, by simp, fun a ha b hb => ?_⟩
    · refine List.Pairwise.imp_of_mem (fun {a b} ha hb hab => ?_) h.mono
      rw [if_neg (nk a ha), if_neg (nk b hb)]
      exact hab
    · rw [List.mem_singleton.mp hb, if_neg (nk a ha), if_pos rfl]
      obtain ⟨t, e, _, _, ht⟩ := h.lev a ha
      rw [e]
      omega
  · rcases Nat.lt_or_ge j w.length with y | y
    · rw [List.getElem?_append_left y] at hj
      rw [if_neg (nk t (List.mem_of_getElem? hj))]
      exact h.idx j t hj
    · rw [List.getElem?_append_right y] at hj
      have : j - w.length = 0 := by
        rcases Nat.eq_zero_or_pos (j - w.length) with z | z
        · exact z
        · rw [List.getElem?_eq_none (by simp; omega)] at hj
          cases hj
      rw [this] at hj
      have : k = t := by simpa using hj
      rw [this, if_pos rfl]
      omega
/-- all positions of one level are behind: the next one -/
theorem M.next {w : List Nat} {f : Nat → Int} {d at_ p q : Nat} (h : M own mv ts n w f d) (hm : ∀ k, k < n → ∀ t ∈ mv k, t < n) (hp : w[at_]? = some p) (hd : f p = (d : Int)) (hq : w[at_ + 1]? = some q) (hc : ∀ k, k < n → k ∉ w → ¬ Cond own mv (fun t => t ∈ w.take (at_ + 1)) k) :
    ∃ d' : Nat, f q = (d' : Int) ∧ M own mv ts n w f d' := by
  obtain ⟨t, e, _, _, ht⟩ := h.lev q (List.mem_of_getElem? hq)
  have hql : at_ + 1 < w.length := (List.getElem?_eq_some_iff.mp hq).1
  have hpq : f p ≤ f q := by
    have := List.pairwise_iff_getElem.mp h.mono at_ (at_ + 1) (by omega) hql (by omega)
    rw [(List.getElem?_eq_some_iff.mp hp).2, (List.getElem?_eq_some_iff.mp hq).2] at this
    exact this
  refine ⟨t, e, ?_⟩
  have h2 : t = d ∨ t = d + 1 := by rw [hd, e] at hpq; omega
  rcases h2 with h2 | h2
  · rw [h2]; exact h
  subst h2
  refine ⟨h.nd, h.lt, h.neg, fun k hk => by obtain ⟨s, a, b, c, e'⟩ := h.lev k hk; exact ⟨s, a, b, c, by omega⟩, h.mono, h.idx, fun k hk s hs hA => ?_⟩
  rcases Nat.lt_or_ge s (d + 1) with y | y
  · exact h.low k hk s (by omega) hA
  · have hs1 : s = d + 1 := by omega
    subst hs1
    rcases hA with hA | hA
    · exact h.low k hk d (Nat.le_refl d) hA
    · refine Classical.byContradiction fun hkw => hc k hk hkw (hA.mono fun t ht hAt => ?_)
      have htn := hm k hk t ht
      have htw := h.low t htn d (Nat.le_refl d) hAt
      obtain ⟨i, hi, rfl⟩ := List.getElem_of_mem htw
      refine List.mem_iff_getElem.mpr ⟨i, ?_, List.getElem_take⟩
      rw [List.length_take]
      rcases Nat.lt_or_ge i (at_ + 1) with z | z
      · omega
      · exfalso
        have hle : f q ≤ f w[i] := by
          rcases Nat.lt_or_ge (at_ + 1) i with u | u
          · have := List.pairwise_iff_getElem.mp h.mono (at_ + 1) i hql hi u
            rw [(List.getElem?_eq_some_iff.mp hq).2] at this
            exact this
          · have hi1 : i = at_ + 1 := by omega
            subst hi1
            rw [(List.getElem?_eq_some_iff.mp hq).2]
            exact Int.le_refl _
        obtain ⟨s, es, _, hmin, _⟩ := h.lev w[i] htw
        rcases Nat.lt_or_ge d s with u | u
        · exact hmin d u hAt
        · rw [es, e] at hle
          omega
/-- the queue is empty: all levels are found -/
theorem M.done {w : List Nat} {f : Nat → Int} {d : Nat} (h : M own mv ts n w f d) (hm : ∀ k, k < n → ∀ t ∈ mv k, t < n) (hc : ∀ k, k < n → k ∉ w → ¬ Cond own mv (fun t => t ∈ w) k) : ∀ k, k < n → Lev own mv ts k (f k) := by
  have key : ∀ t k, k < n → A own mv ts t k → k ∈ w := by
    intro t
    induction t with
    | zero => exact fun k hk hA => h.low k hk 0 (Nat.zero_le d) hA
    | succ t ih =>
      intro k hk hA
      rcases hA with hA | hA
      · exact ih k hk hA
      · exact Classical.byContradiction fun hkw => hc k hk hkw (hA.mono fun t' ht' hAt => ih t' (hm k hk t' ht') hAt)
  intro k hk
  by_cases hkw : k ∈ w
  · obtain ⟨t, a, b, c, _⟩ := h.lev k hkw
    exact .inr ⟨t, a, b, c⟩
  · exact .inl ⟨h.neg k hk hkw, fun t hA => hkw (key t k hk hA)⟩
theorem M.init {w : List Nat} {f : Nat → Int} (nd : w.Nodup) (lt : ∀ k, k ∈ w → k < n) (hw : ∀ k, k < n → (k ∈ w ↔ ts k)) (h0 : ∀ k, k ∈ w → f k = 0) (h1 : ∀ k, k < n → k ∉ w → f k = -1) : M own mv ts n w f 0 :=
  ⟨nd, lt, h1, fun k hk => ⟨0, h0 k hk, (hw k (lt k hk)).mp hk, fun s hs => absurd hs (Nat.not_lt_zero s), by omega⟩,
    (List.pairwise_of_forall_mem_list fun a ha b hb => by rw [h0 a ha, h0 b hb]; exact Int.le_refl _),
    fun j k hj => by rw [h0 k (List.mem_of_getElem? hj)]; omega,
    fun k hk t ht hA => by
      have : t = 0 := by omega
      subst this
      exact (hw k hk).mpr hA⟩
/-- what is found is small -/
theorem M.small {w : List Nat} {f : Nat → Int} {d : Nat} (h : M own mv ts n w f d) : ∀ k, k ∈ w → f k < (w.length : Int) := fun k hk => by
  obtain ⟨i, hi, rfl⟩ := List.getElem_of_mem hk
  have := h.idx i _ (List.getElem?_eq_getElem hi)
  omega
/-! the rounds -/
/-- what stands after r rounds -/
def Rnd (own : Nat → Bool) (mv : Nat → List Nat) (ts : Nat → Prop) (r : Nat) (k : Nat) (v : Int) : Prop := (v = -1 ∧ ¬ A own mv ts r k) ∨ ∃ t : Nat, t ≤ r ∧ v = (t : Int) ∧ A own mv ts t k ∧ ∀ s, s < t → ¬ A own mv ts s k
theorem A_mono {s t k : Nat} (h : s ≤ t) (hA : A own mv ts s k) : A own mv ts t k := by
  induction t with
  | zero => rw [show s = 0 by omega] at hA; exact hA
  | succ t ih =>
    rcases Nat.lt_or_ge s (t + 1) with y | y
    · exact .inl (ih (by omega))
    · rw [show s = t + 1 by omega] at hA; exact hA
theorem Rnd.iff {r k : Nat} {v : Int} (h : Rnd own mv ts r k v) : 0 ≤ v ↔ A own mv ts r k := by
  rcases h with ⟨a, b⟩ | ⟨t, ht, a, b, _⟩
  · exact ⟨fun z => by omega, fun z => absurd z b⟩
  · exact ⟨fun _ => A_mono ht b, fun _ => by omega⟩
theorem Rnd.step {r k : Nat} {v : Int} (h : Rnd own mv ts r k v) {b : Prop} (hb : b ↔ Cond own mv (A own mv ts r) k) : (v < 0 ∧ b → Rnd own mv ts (r + 1) k ((r + 1 : Nat) : Int)) ∧ (¬ (v < 0 ∧ b) → Rnd own mv ts (r + 1) k v) := by
  refine ⟨fun ⟨hv, hbb⟩ => ?_, fun hn => ?_⟩
  · have hna : ¬ A own mv ts r k := fun z => by have := h.iff.mpr z; omega
    exact .inr ⟨r + 1, Nat.le_refl _, rfl, .inr (hb.mp hbb), fun s hs hA => hna (A_mono (by omega) hA)⟩
  · rcases h with ⟨a, b'⟩ | ⟨t, ht, a, b', c⟩
    · refine .inl ⟨a, fun z => ?_⟩
      rcases z with z | z
      · exact b' z
      · exact hn ⟨by omega, hb.mpr z⟩
    · exact .inr ⟨t, by omega, a, b', c⟩
theorem Rnd.init {k : Nat} {v : Int} (h : (ts k ∧ v = 0) ∨ (¬ ts k ∧ v = -1)) : Rnd own mv ts 0 k v := by
  rcases h with ⟨a, b⟩ | ⟨a, b⟩
  · exact .inr ⟨0, Nat.le_refl 0, b, a, fun s hs => absurd hs (Nat.not_lt_zero s)⟩
  · exact .inl ⟨b, a⟩
/-- enough rounds find what the levels are -/
theorem Rnd.eq {r k : Nat} {v v' : Int} (h : Rnd own mv ts r k v) (h' : Lev own mv ts k v') (hs : v' ≤ (r : Int)) : v = v' := by
  rcases h' with ⟨a, b⟩ | ⟨t, a, b, c⟩
  · rcases h with ⟨a', _⟩ | ⟨t', _, _, b', _⟩
    · rw [a, a']
    · exact absurd b' (b t')
  · rcases h with ⟨_, b'⟩ | ⟨t', ht', a', b', c'⟩
    · exact absurd (A_mono (by omega) b) b'
    · have : t' = t := by
        rcases Nat.lt_trichotomy t' t with y | y | y
        · exact absurd b' (c t' y)
        · exact y
        · exact absurd b (c' t y)
      rw [a, a', this]
end Bf
namespace Wd
/-- m is the length of a proper border of the first k letters -/
def Bd (w : Nat → Int) (k m : Nat) : Prop := m < k ∧ ∀ i, i < m → w i = w (k - m + i)
/-- .. the greatest -/
def Lg (w : Nat → Int) (k m : Nat) : Prop := Bd w k m ∧ ∀ j, Bd w k j → j ≤ m
theorem Bd.zero {w : Nat → Int} {k : Nat} (h : 0 < k) : Bd w k 0 := ⟨h, fun i hi => absurd hi (Nat.not_lt_zero i)⟩
theorem Bd.down {w : Nat → Int} {k m : Nat} (h : Bd w (k + 1) (m + 1)) : Bd w k m ∧ w m = w k := by
  obtain ⟨h1, h2⟩ := h
  refine ⟨⟨by omega, fun i hi => ?_⟩, ?_⟩
  · have := h2 i (by omega)
    rw [this]
    congr 1
    omega
  · have := h2 m (by omega)
    rw [this]
    congr 1
    omega
theorem Bd.up {w : Nat → Int} {k m : Nat} (h : Bd w k m) (e : w m = w k) : Bd w (k + 1) (m + 1) := by
  obtain ⟨h1, h2⟩ := h
  refine ⟨by omega, fun i hi => ?_⟩
  rcases Nat.lt_or_ge i m with c | c
  · rw [h2 i c]
    congr 1
    omega
  · have : i = m := by omega
    subst this
    rw [e]
    congr 1
    omega
theorem Bd.inner {w : Nat → Int} {k b j : Nat} (h : Bd w k b) (g : Bd w k j) (l : j < b) : Bd w b j := by
  obtain ⟨h1, h2⟩ := h
  obtain ⟨g1, g2⟩ := g
  refine ⟨l, fun i hi => ?_⟩
  rw [g2 i hi, h2 (b - j + i) (by omega)]
  congr 1
  omega
theorem Bd.trans {w : Nat → Int} {k b j : Nat} (h : Bd w k b) (g : Bd w b j) : Bd w k j := by
  obtain ⟨h1, h2⟩ := h
  obtain ⟨g1, g2⟩ := g
  refine ⟨by omega, fun i hi => ?_⟩
  rw [g2 i hi, h2 (b - j + i) (by omega)]
  congr 1
  omega
/-- what the inner loop keeps: b is a border of the first k letters, and no border of the first k + 1 is longer than b + 1 -/
def In (w : Nat → Int) (k b : Nat) : Prop := Bd w k b ∧ ∀ j, Bd w (k + 1) (j + 1) → j ≤ b
theorem In.start {w : Nat → Int} {k b : Nat} (h : Lg w k b) : In w k b := ⟨h.1, fun j hj => h.2 j hj.down.1⟩
theorem In.step {w : Nat → Int} {k b c : Nat} (h : In w k b) (hb : 0 < b) (ne : w k ≠ w b) (g : Lg w b c) : In w k c ∧ c < b := by
  refine ⟨⟨h.1.trans g.1, fun j hj => ?_⟩, g.1.1⟩
  have h1 := h.2 j hj
  obtain ⟨h2, h3⟩ := hj.down
  have : j ≠ b := fun z => ne (by rw [← h3, z])
  exact g.2 j (h.1.inner h2 (by omega))
theorem In.found {w : Nat → Int} {k b : Nat} (h : In w k b) (e : w k = w b) : Lg w (k + 1) (b + 1) := by
  refine ⟨h.1.up e.symm, fun j hj => ?_⟩
  cases j with
  | zero => omega
  | succ j => exact Nat.succ_le_succ (h.2 j hj)
theorem In.none {w : Nat → Int} {k : Nat} (h : In w k 0) (ne : w k ≠ w 0) : Lg w (k + 1) 0 := by
  refine ⟨Bd.zero (by omega), fun j hj => ?_⟩
  cases j with
  | zero => omega
  | succ j =>
    have h1 := h.2 j hj
    have : j = 0 := by omega
    subst this
    exact absurd hj.down.2.symm ne
/-! periods -/
/-- the letters of the word without end that repeats the first n letters -/
def cyc (w : Nat → Int) (n i : Nat) : Int := w (i % n)
def Rp (w : Nat → Int) (n p : Nat) : Prop := ∀ i, cyc w n (i + p) = cyc w n i
theorem Rp.mul {w : Nat → Int} {n p : Nat} (h : Rp w n p) : ∀ k i, cyc w n (i + k * p) = cyc w n i
  | 0, i => by rw [Nat.zero_mul, Nat.add_zero]
  | k + 1, i => by
    rw [Nat.succ_mul, ← Nat.add_assoc, h, h.mul k i]
theorem Rp.mod {w : Nat → Int} {n p i : Nat} (h : Rp w n p) : cyc w n i = cyc w n (i % p) := by
  have := h.mul (i / p) (i % p)
  rw [Nat.mul_comm, Nat.mod_add_div] at this
  exact this
theorem cyc_lt {w : Nat → Int} {n i : Nat} (h : i < n) : cyc w n i = w i := by
  unfold cyc
  rw [Nat.mod_eq_of_lt h]
theorem rp_self (w : Nat → Int) (n : Nat) : Rp w n n := fun i => by
  unfold cyc
  rw [Nat.add_mod_right]
/-- a period of the finite word that divides its length is one of the word without end -/
theorem rp_of {w : Nat → Int} {n p : Nat} (hp : 0 < p) (hd : p ∣ n) (hn : 0 < n) (h : ∀ i, i + p < n → w i = w (i + p)) : Rp w n p := by
  have red : ∀ k i, i + k * p < n → w (i + k * p) = w i := by
    intro k
    induction k with
    | zero => intro i _; rw [Nat.zero_mul, Nat.add_zero]
    | succ k ih =>
      intro i hi
      rw [Nat.succ_mul] at hi ⊢
      rw [← Nat.add_assoc, ← h (i + k * p) (by omega)]
      exact ih i (by omega)
  have toMod : ∀ i, cyc w n i = w (i % p) := by
    intro i
    unfold cyc
    have h1 : i % n < n := Nat.mod_lt _ hn
    have e : i % n % p + (i % n / p) * p = i % n := by
      rw [Nat.mul_comm]
      exact Nat.mod_add_div _ _
    have h2 := red (i % n / p) (i % n % p) (by rw [e]; exact h1)
    rw [e] at h2
    rw [h2, Nat.mod_mod_of_dvd _ hd]
  intro i
  rw [toMod, toMod, Nat.add_mod_right]
/-- the least repetition: r divides n, the word repeats its first r letters, and no shorter one does -/
structure Least (w : Nat → Int) (n r : Nat) : Prop where
  pos : 0 < r
  dvd : r ∣ n
  rp : Rp w n r
  min : ∀ p, 0 < p → p ∣ n → Rp w n p → r ≤ p
theorem least_of {w : Nat → Int} {n b : Nat} (hn : 0 < n) (h : Lg w n b) : Least w n (if n % (n - b) = 0 then n - b else n) := by
  obtain ⟨⟨hb, h1⟩, h2⟩ := h
  have hs : 0 < n - b := by omega
  -- n - b is the least period of the finite word
  have per : ∀ i, i + (n - b) < n → w i = w (i + (n - b)) := fun i hi => by
    have := h1 i (by omega)
    rw [this]
    congr 1
    omega
  have low : ∀ p, 0 < p → p ≤ n → (∀ i, i + p < n → w i = w (i + p)) → n - b ≤ p := fun p hp hpn hq => by
    have := h2 (n - p) ⟨by omega, fun i hi => by
      have := hq i (by omega)
      rw [this]
      congr 1
      omega⟩
    omega
  have fin : ∀ p, Rp w n p → ∀ i, i + p < n → w i = w (i + p) := fun p hp i hi => by
    have := hp i
    rw [cyc_lt hi, cyc_lt (by omega)] at this
    exact this.symm
  -- a shorter repetition makes n - b a repetition
  have key : ∀ p, 0 < p → p ∣ n → p < n → Rp w n p → n % (n - b) = 0 ∧ n - b ≤ p := by
    intro p hp hd hlt hr
    have le := low p hp (by omega) (fin p hr)
    obtain ⟨q, hq⟩ := hd
    have hq2 : 2 ≤ q := by
      rcases Nat.lt_or_ge q 2 with c | c
      · have : q = 0 ∨ q = 1 := by omega
        rcases this with z | z
        · rw [z] at hq; omega
        · rw [z] at hq; omega
      · exact c
    have h2p : 2 * p ≤ n := by
      rw [hq, Nat.mul_comm 2 p]
      exact Nat.mul_le_mul_left p hq2
    have rs : Rp w n (n - b) := by
      intro i
      have e1 : cyc w n (i + (n - b)) = cyc w n (i % p + (n - b)) := by
        have := hr.mul (i / p) (i % p + (n - b))
        rw [← this]
        congr 1
        have := Nat.mod_add_div i p
        rw [Nat.mul_comm (i / p) p]
        omega
      have hm : i % p < p := Nat.mod_lt _ hp
      rw [e1, hr.mod (i := i), cyc_lt (show i % p + (n - b) < n by omega), cyc_lt (show i % p < n by omega)]
      exact (per _ (by omega)).symm
    -- p is a multiple of n - b
    have hmod : p % (n - b) = 0 := by
      rcases Nat.eq_zero_or_pos (p % (n - b)) with z | z
      · exact z
      · have lt : p % (n - b) < n - b := Nat.mod_lt _ hs
        have rm : Rp w n (p % (n - b)) := by
          intro i
          have a := rs.mul (p / (n - b)) (i + p % (n - b))
          have e : i + p % (n - b) + p / (n - b) * (n - b) = i + p := by
            rw [Nat.mul_comm, Nat.add_assoc, Nat.mod_add_div]
          rw [e] at a
          rw [← a]
          exact hr i
        have := low _ z (by omega) (fin _ rm)
        omega
    refine ⟨?_, le⟩
    exact Nat.mod_eq_zero_of_dvd (Nat.dvd_trans (Nat.dvd_of_mod_eq_zero hmod) ⟨q, hq⟩)
  by_cases c : n % (n - b) = 0
  · rw [if_pos c]
    refine ⟨hs, Nat.dvd_of_mod_eq_zero c, rp_of hs (Nat.dvd_of_mod_eq_zero c) hn per, fun p hp hd hr => ?_⟩
    exact low p hp (Nat.le_of_dvd hn hd) (fin p hr)
  · rw [if_neg c]
    refine ⟨hn, Nat.dvd_refl n, rp_self w n, fun p hp hd hr => ?_⟩
    have le := Nat.le_of_dvd hn hd
    rcases Nat.lt_or_ge p n with l | l
    · exact absurd (key p hp hd l hr).1 c
    · exact l
end Wd
/-! ### min(xs, default=d) of a list of ints: own rule -/
namespace MinD
open PySem PySem.W PyProof.Rows
def kwD (d : Value) : List (Str × Value) := [(Str.ofString "default", d)]
theorem nameL : (toString "min" ++ toString ".loop" : String) = "min.loop" := by decide
section
variable {prog : Program} {w : World} {A : Around} {R : Result → Shared → Prop} {I S : Addr} {fp wr : List Addr} {n : Nat} {P : Nat → Value → Prop} {St : Nat → Heap → Prop} {d : Value}
theorem loopD (W : Walks prog w A.in1 I fp wr n P St) (bt : Nat → Nat → Bool) (cm : CmpOf prog w A.in1 .Lt P bt) (nf : S ∉ fp) :
    ∀ (m j : Nat) (u : Shared) (best : Value) (c : Nat), n - (j + 1) = m → j + 1 ≤ n → St (j + 1) u.heap → P (argBest bt j) best →
    u.heap.get? S = some { cls := .type "list", dict := none, data := .seq #[best, best] c, slots := #[] } →
    (∀ v g tk, P (argBest bt (n - 1)) v → (∀ b o, b ∉ wr → b ≠ S → u.heap.get? b = some o → g.get? b = some o) → R (.ok (.ret v)) { u with heap := g, toks := tk }) →
    codeAny (model prog w) A (.builtin "min.loop" ⟨[.ref I, .none, .ref S], kwD d⟩) R u := by
  have nw : S ∉ wr := fun q => nf (W.sub _ q)
  intro m
  induction m with
  | zero =>
    intro j u best c em hj st pb gS out
    have ej : j + 1 = n := by omega
    refine codeAny_builtin PySem.F.entry_min_loop ?_
    rw [Around.under_plainId PySem.F.plain_min_loop _]
    show wpAny _ A.in1 (seqItems? (.ref S) >>= _) _ _ u
    refine wpAny_bind (wpAny_seqItems gS rfl ?_)
    show wpAny _ A.in1 (tryCatch (pyNext (.ref I)) _ >>= _) _ _ u
    refine wpAny_bind (wpAny_tryCatch (W.done u _ _ (ej ▸ st) fun g tk keep => ?_))
    have gS2 := keep S _ nw gS
    show wpAny _ A.in1 (updateSeq S (fun _ => #[]) >>= _) _ _ _
    refine wpAny_bind (wpAny_updateSeq gS2 rfl (wpAny_bind (wpAny_letGo (wpAny_pure ?_))))
    exact out best _ tk (by rw [← ej]; exact pb) fun b o hb hS e => (Heap.get?_update_other _ _ (Ne.symm hS)).trans (keep b o hb e)
  | succ m ih =>
    intro j u best c em hj st pb gS out
    have lt : j + 1 < n := by omega
    refine codeAny_builtin PySem.F.entry_min_loop ?_
    rw [Around.under_plainId PySem.F.plain_min_loop _]
    show wpAny _ A.in1 (seqItems? (.ref S) >>= _) _ _ u
    refine wpAny_bind (wpAny_seqItems gS rfl ?_)
    show wpAny _ A.in1 (tryCatch (pyNext (.ref I)) _ >>= _) _ _ u
    refine wpAny_bind (wpAny_tryCatch (W.item (j + 1) u _ _ lt st fun v g tk pv st2 keep => ?_))
    have gS2 := keep S _ nw gS
    show wpAny _ A.in1 (tryCatch (holding [v, v] (richCompare .Lt v best >>= _)) _ >>= _) _ _ _
    refine wpAny_bind (wpAny_tryCatch (wpAny_holding (wpAny_bind (cm (j + 1) (argBest bt j) v best _ _ _ pv pb ?_))))
    refine wpAny_bind (wpAny_holding (wpAny_truthy_bool (wpAny_bind (wpAny_letGo (wpAny_pure ?_)))))
    cases hb : bt (j + 1) (argBest bt j) with
    | true =>
      simp only [if_true]
      refine wpAny_bind (wpAny_updateSeq gS2 rfl (wpAny_bind (wpAny_letGo ?_)))
      rw [nameL]
      refine wpAny_pure ⟨plainId_quiet PySem.F.plain_min_loop _, ih (j + 1) _ v _ (by omega) lt (W.frame _ _ _ st2 fun b bf o e => ?_) (by simp only [argBest, hb, if_true]; exact pv) (Heap.get?_update_self _ gS2 rfl)
        fun v2 g2 tk2 p2 keep2 => ?_⟩
      · exact (Heap.get?_update_other _ _ (fun q : S = b => nf (by rw [q]; exact bf))).trans e
      · exact out v2 g2 tk2 p2 fun b o hw hS e => keep2 b o hw hS ((Heap.get?_update_other _ _ (Ne.symm hS)).trans (keep b o hw e))
    | false =>
      simp only [Bool.false_eq_true, if_false]
      refine wpAny_bind (wpAny_letGo ?_)
      rw [nameL]
      exact wpAny_pure ⟨plainId_quiet PySem.F.plain_min_loop _, ih (j + 1) _ best c (by omega) lt st2 (by simp only [argBest, hb, Bool.false_eq_true, if_false]; exact pb) gS2 fun v2 g2 tk2 p2 keep2 =>
        out v2 g2 tk2 p2 fun b o hw hS e => keep2 b o hw hS (keep b o hw e)⟩
theorem firstD (W : Walks prog w A.in1 I fp wr n P St) (bt : Nat → Nat → Bool) (cm : CmpOf prog w A.in1 .Lt P bt) (nf : S ∉ fp) {u : Shared} {c : Nat} (st : St 0 u.heap)
    (gS : u.heap.get? S = some { cls := .type "list", dict := none, data := .seq #[] c, slots := #[] })
    (out : ∀ v g tk, (0 < n → P (argBest bt (n - 1)) v) → (n = 0 → v = d) → (∀ b o, b ∉ wr → b ≠ S → u.heap.get? b = some o → g.get? b = some o) → R (.ok (.ret v)) { u with heap := g, toks := tk }) :
    codeAny (model prog w) A (.builtin "min.loop" ⟨[.ref I, .none, .ref S], kwD d⟩) R u := by
  have nw : S ∉ wr := fun q => nf (W.sub _ q)
  refine codeAny_builtin PySem.F.entry_min_loop ?_
  rw [Around.under_plainId PySem.F.plain_min_loop _]
  show wpAny _ A.in1 (seqItems? (.ref S) >>= _) _ _ u
  refine wpAny_bind (wpAny_seqItems gS rfl ?_)
  show wpAny _ A.in1 (tryCatch (pyNext (.ref I)) _ >>= _) _ _ u
  by_cases h0 : 0 < n
  · refine wpAny_bind (wpAny_tryCatch (W.item 0 u _ _ h0 st fun v g tk pv st2 keep => ?_))
    have gS2 := keep S _ nw gS
    show wpAny _ A.in1 (updateSeq S (fun _ => #[v, v]) >>= _) _ _ _
    refine wpAny_bind (wpAny_updateSeq gS2 rfl ?_)
    rw [nameL]
    refine wpAny_pure ⟨plainId_quiet PySem.F.plain_min_loop _, loopD W bt cm nf _ 0 _ v _ rfl h0 (W.frame _ _ _ st2 fun b bf o e => ?_) pv (Heap.get?_update_self _ gS2 rfl) fun v2 g2 tk2 p2 keep2 => ?_⟩
    · exact (Heap.get?_update_other _ _ (fun q : S = b => nf (by rw [q]; exact bf))).trans e
    · exact out v2 g2 tk2 (fun _ => p2) (fun z => by omega) fun b o hw hS e => keep2 b o hw hS ((Heap.get?_update_other _ _ (Ne.symm hS)).trans (keep b o hw e))
  · have e0 : n = 0 := by omega
    refine wpAny_bind (wpAny_tryCatch (W.done u _ _ (by rw [e0]; exact st) fun g tk keep => ?_))
    show wpAny _ A.in1 (rule _ >>= _) _ _ _
    refine wpAny_bind (wpAny_rule (wpAny_pure ?_))
    exact out d g tk (fun z => absurd z h0) (fun _ => rfl) fun b o hw _ e => keep b o hw e
end
section
variable {prog : Program} {w : World} {A : Around} {E : Value → Shared → Prop} {s : Shared} {d : Value}
theorem args_d (a v : Value) : argsOk "min" ⟨[a], kwD v⟩ := by
  unfold argsOk
  kernel_rfl
theorem callD {l : Addr} {xs : Array (Int × Tok)} {Q : Value → Shared → Prop} (hh : A.handled = none) (hl : s.heap.IsList l (intItems xs))
    (h : ∀ v g tk, (0 < xs.size → (intItems xs)[argBest (fun i j => decide (numAt xs i < numAt xs j)) (xs.size - 1)]? = some v) → (xs.size = 0 → v = d) → (∀ b o, s.heap.get? b = some o → g.get? b = some o) → Q v { s with heap := g, toks := tk }) :
    wpAny (model prog w) A (call (.builtin "min") [.ref l] (kwD d)) Q E s := by
  refine kmk_tree PySem.F.kind_min PySem.F.plain_min PySem.F.entry_min (args_d _ _) ?_
  show wpAny _ A.in1 (Builtin.Builtins.bindParams "min" ["key", "default"] 0 ⟨[], kwD d⟩ >>= _) _ _ s
  refine wpAny_bind (wpAny_of_eq (show Builtin.Builtins.bindParams "min" ["key", "default"] 0 ⟨[], kwD d⟩ = pure [none, some d] from rfl) ?_)
  refine wpAny_bind (wpAny_pure ?_)
  refine wpAny_bind (iter_intList hl fun u eu st hfp hlI => ?_)
  subst eu
  refine wpAny_bind (wpAny_newObj_type ?_)
  rw [nameL]
  refine wpAny_pure ⟨plainId_quiet PySem.F.plain_min_loop _, firstD (Walks.list (A := A.in1) hh _ l hlI (intItems xs)) _ (CmpOf.ints_lt (numAt xs) (fun _ _ => intItems_at)) (fun hm => Nat.lt_irrefl _ (hfp _ hm)) ?_ (Heap.get?_push_size _ rfl) fun v g tk p1 p2 keep => ?_⟩
  · exact (Walks.list (prog := prog) (w := w) (A := A.in1) hh _ l hlI (intItems xs)).frame _ _ _ st fun b _ o e => Heap.get?_push_of_some _ e
  · have hsz : (intItems xs).size = xs.size := by simp [intItems]
    refine h v g tk (fun z => by have := p1 (by rw [hsz]; exact z); rw [hsz] at this; exact this) (fun z => p2 (by rw [hsz]; exact z)) (old_kept (l := l) fun b o hb e => ?_)
    exact keep b o hb (Nat.ne_of_lt (Heap.lt_size e)) (Heap.get?_push_of_some _ e)
end
theorem rawD {prog : Program} {w : World} {A : Around} {E : Value → Shared → Prop} {s : Shared} {l : Addr} {its : List Value} {ns : List Int} {z : Int} {t : Tok} {Q : Value → Shared → Prop} (hh : A.handled = none) (hl : s.heap.IsList l its.toArray) (hi : IntsAre its ns)
    (h : ∀ (g : Heap) (tk : Nat) (m : Int) (t' : Tok), (∀ b o, s.heap.get? b = some o → g.get? b = some o) → (ns = [] → m = z) → (ns ≠ [] → m ∈ ns ∧ ∀ y ∈ ns, m ≤ y) → Q (.int m t') { s with heap := g, toks := tk }) :
    wpAny (model prog w) A (call (.builtin "min") [.ref l] (kwD (.int z t))) Q E s := by
  obtain ⟨xs, e⟩ := hi.allInts.items
  have hn : numsOf (intItems xs).toList = ns := by rw [← e]; exact hi.numsOf
  rw [PySem.nums_intItems] at hn
  subst hn
  rw [e] at hl
  refine callD hh hl fun v g tk p1 p2 keep => ?_
  by_cases c : 0 < xs.size
  · obtain ⟨u, rfl⟩ := intItems_at (p1 c)
    obtain ⟨a1, a2⟩ := argBest_lt (numAt xs) (xs.size - 1)
    refine h g tk _ u keep (fun z => ?_) fun _ => ⟨?_, fun y hy => ?_⟩
    · have q : xs.size = 0 := by simpa using congrArg List.length z
      omega
    · rw [PySem.numAt_eq]
      refine PySem.getD_mem ?_
      rw [List.length_map, Array.length_toList]
      exact Nat.lt_of_le_of_lt a1 (by omega)
    · obtain ⟨j, hj, rfl⟩ := PySem.mem_getD hy
      rw [List.length_map, Array.length_toList] at hj
      rw [← PySem.numAt_eq]
      exact a2 j (by omega)
  · rw [p2 (by omega)]
    refine h g tk z t keep (fun _ => rfl) fun q => absurd ?_ q
    have : xs = #[] := Array.eq_empty_of_size_eq_zero (by omega)
    rw [this]
    rfl
end MinD
namespace Bx
open PySem PySem.Spec PyProof.Rows L2
def rMinD (K : PySem.W.Frag) : List V → List V → Hp → VK → Prop := fun xs zs H Q => ∃ (a : Addr) (ns : List Int) (z : Int), xs = [.ref a] ∧ zs = [.int z] ∧ SqL K H a (ns.map V.int) ∧
  ∀ m, (ns = [] → m = z) → (ns ≠ [] → m ∈ ns ∧ ∀ y ∈ ns, m ≤ y) → Q (.int m) H
theorem call_minD {X : Cx} {K : PySem.W.Frag} (h : X.K = K) (hc : X.calm = true) : CallRK X (.builtin "min") ["default"] (rMinD K) := by
  subst h
  intro pins s σ H xs zs us ws Q I r r2 hw
  obtain ⟨a, ns, z, rfl, rfl, hs, q⟩ := hw
  obtain ⟨its, rv, hl, _⟩ := I.list hs
  rw [Vals.ref1 r]
  obtain ⟨u, rfl, ru⟩ := vals1 r2
  obtain ⟨t, rfl⟩ := ru
  exact MinD.rawD (I.ok.hd hc) hl.isList rv.ints fun g tk m t' hk h1 h2 => ⟨.int m, H, I.kept hk, ⟨_, rfl⟩, q m h1 h2⟩
end Bx
namespace Bx
open PySem PySem.Spec PyProof.Rows L2
/-! ### rules over the written part by its name -/
section
variable {X : Cx} {K : PySem.W.Frag}
theorem ix_tupK (h : X.K = K) : IxR X (rIxT K) := h ▸ ix_tup
theorem ix_listK (h : X.K = K) : IxR X (rIxL K) := h ▸ ix_list
theorem ix_seqK (h : X.K = K) : IxR X (rIx K) := h ▸ ix_seq
def rLen (K : PySem.W.Frag) : List V → Hp → VK → Prop := fun xs H Q => ∃ (p : Addr) (ys : List V), xs = [.ref p] ∧ (SqL K H p ys ∨ SqT K H p ys) ∧ Q (.int ys.length) H
theorem call_lenK (h : X.K = K) : CallR X (.builtin "len") (rLen K) := by
  subst h
  exact call_len_seq
def rTupOf (K : PySem.W.Frag) : List V → Hp → VK → Prop := fun xs H Q => ∃ (p : Addr) (ys : List V), xs = [.ref p] ∧ ((SqL K H p ys ∧ ∀ l, H l = none → Q (.ref l) (upd H l (.tup ys))) ∨ (SqT K H p ys ∧ Q (.ref p) H))
theorem call_tuple_ofK (h : X.K = K) : CallR X (.type "tuple") (rTupOf K) := by
  subst h
  exact call_tuple_of
def rLstOf (K : PySem.W.Frag) : List V → Hp → VK → Prop := fun xs H Q => ∃ (p : Addr) (ys : List V), xs = [.ref p] ∧ (SqL K H p ys ∨ SqT K H p ys) ∧ ∀ l, H l = none → Q (.ref l) (upd H l (.lst ys))
theorem call_list_ofK (h : X.K = K) : CallR X (.type "list") (rLstOf K) := by
  subst h
  exact call_list_of
end
end Bx
/-! ### heaps: what one list at d may lose, all else as it was -/
namespace Bx
open PySem PySem.Spec PyProof.Rows L2
def Kp (d : Addr) (H H' : Hp) : Prop := ∀ b o, b ≠ d → H b = some o → H' b = some o
theorem Kp.refl (d : Addr) (H : Hp) : Kp d H H := fun _ _ _ h => h
theorem Kp.trans {d : Addr} {H H1 H2 : Hp} (a : Kp d H H1) (b : Kp d H1 H2) : Kp d H H2 := fun c o n h => b c o n (a c o n h)
theorem Same.kp {d : Addr} {H H' : Hp} (s : Same H H') : Kp d H H' := fun b o _ h => s b o h
theorem Kp.own {d : Addr} {H : Hp} {o : HO} : Kp d H (upd H d o) := fun b _ n h => by rw [upd_ne n]; exact h
theorem same_new {H : Hp} {p : Addr} {o : HO} (h : H p = none) : Same H (upd H p o) := fun b x e => by
  rw [upd_ne (ne_of_none e h)]
  exact e
theorem Kp.new {d p : Addr} {H : Hp} {o : HO} (h : H p = none) : Kp d H (upd H p o) := Same.kp (same_new h)
theorem upd_self {H : Hp} {d : Addr} {o : HO} (h : H d = some o) : upd H d o = H := by
  funext b
  by_cases e : b = d
  · rw [e, upd_same, h]
  · rw [upd_ne e]
/-- a list of ints at d -/
def Ints (H : Hp) (d : Addr) (xs : List Int) : Prop := H d = some (.lst (xs.map V.int))
/-- the draws: some list of ints -/
def Drw (H : Hp) (d : Addr) : Prop := ∃ ds : List Int, H d = some (.lst (ds.map V.int))
theorem Drw.new {H : Hp} {d p : Addr} {o : HO} (h : Drw H d) (n : H p = none) : Drw (upd H p o) d := by
  obtain ⟨ds, e⟩ := h
  exact ⟨ds, same_new n _ _ e⟩
theorem Drw.own {H : Hp} {d : Addr} {ds : List Int} : Drw (upd H d (.lst (ds.map V.int))) d := ⟨ds, upd_same⟩
theorem Drw.same {H H' : Hp} {d : Addr} (h : Drw H d) (s : Same H H') : Drw H' d := by
  obtain ⟨ds, e⟩ := h
  exact ⟨ds, s _ _ e⟩
/-- a tuple of ints -/
def TupI (H : Hp) (a : Addr) (xs : List Int) : Prop := H a = some (.tup (xs.map V.int))
theorem Drw.ne_tup {H : Hp} {d a : Addr} {xs : List V} (h : Drw H d) (e : H a = some (.tup xs)) : a ≠ d := by
  obtain ⟨ds, e2⟩ := h
  exact ne_of e e2 (by intro z; cases z)
/-- a lasso: a pair of tuples of ints -/
def Las (H : Hp) (p : Addr) (h l : List Int) : Prop := ∃ a b, H p = some (.tup [.ref a, .ref b]) ∧ H a = some (.tup (h.map V.int)) ∧ H b = some (.tup (l.map V.int))
theorem Las.keep {H H' : Hp} {d p : Addr} {h l : List Int} (k : Kp d H H') (w : Drw H d) (x : Las H p h l) : Las H' p h l := by
  obtain ⟨a, b, e1, e2, e3⟩ := x
  exact ⟨a, b, k _ _ (w.ne_tup e1) e1, k _ _ (w.ne_tup e2) e2, k _ _ (w.ne_tup e3) e3⟩
theorem Las.same {H H' : Hp} {p : Addr} {h l : List Int} (k : Same H H') (x : Las H p h l) : Las H' p h l := by
  obtain ⟨a, b, e1, e2, e3⟩ := x
  exact ⟨a, b, k _ _ e1, k _ _ e2, k _ _ e3⟩
theorem lenI {xs : List Int} (h : xs.length ≤ 1000000) : (xs.map V.int).length < sizeLine := by
  rw [List.length_map]
  exact Nat.lt_of_le_of_lt h (by decide)
theorem ixN_at {n j : Nat} (h : j < n) : ixN n (j : Int) = some j := by
  unfold ixN
  rw [if_pos (by omega), if_pos (by omega)]
  rfl
theorem set_mapI {xs : List Int} {j : Nat} {v : Int} : (xs.map V.int).set j (.int v) = (xs.set j v).map V.int := by rw [List.map_set]
/-- a list or a tuple of ints -/
def SeqI (H : Hp) (a : Addr) (xs : List Int) : Prop := H a = some (.lst (xs.map V.int)) ∨ H a = some (.tup (xs.map V.int))
theorem SeqI.sq {K : PySem.W.Frag} {H : Hp} {a : Addr} {xs : List Int} (h : SeqI H a xs) : SqL K H a (xs.map V.int) ∨ SqT K H a (xs.map V.int) := by
  rcases h with h | h
  · exact .inl (.of h)
  · exact .inr (.of h)
theorem SeqI.same {H H' : Hp} {a : Addr} {xs : List Int} (k : Same H H') (h : SeqI H a xs) : SeqI H' a xs := by
  rcases h with h | h
  · exact .inl (k _ _ h)
  · exact .inr (k _ _ h)
/-- a pair of lists or tuples of ints -/
def Pr (H : Hp) (p : Addr) (h l : List Int) : Prop := ∃ a b, H p = some (.tup [.ref a, .ref b]) ∧ SeqI H a h ∧ SeqI H b l
theorem Las.pr {H : Hp} {p : Addr} {h l : List Int} (x : Las H p h l) : Pr H p h l := by
  obtain ⟨a, b, e1, e2, e3⟩ := x
  exact ⟨a, b, e1, .inr e2, .inr e3⟩
theorem Pr.same {H H' : Hp} {p : Addr} {h l : List Int} (k : Same H H') (x : Pr H p h l) : Pr H' p h l := by
  obtain ⟨a, b, e1, e2, e3⟩ := x
  exact ⟨a, b, k _ _ e1, e2.same k, e3.same k⟩
/-- an item -/
theorem ixq {K : PySem.W.Frag} {H : Hp} {a : Addr} {xs : List Int} {i : Int} {j : Nat} {v : V} {Q : VK} (h : SeqI H a xs) (ei : i = (j : Int)) (e : (xs.map V.int)[j]? = some v) (q : Q v H) : rIx K (.ref a) (.int i) H Q := by
  subst ei
  rcases h with h | h
  · exact .inl ⟨_, _, _, _, rfl, rfl, .of h, atI_nat e, q⟩
  · exact .inr (.inl ⟨_, _, _, _, rfl, rfl, .of h, atI_nat e, q⟩)
theorem ixq_last {K : PySem.W.Frag} {H : Hp} {a : Addr} {xs : List Int} {z : Int} {Q : VK} (h : SeqI H a xs) (e : xs.getLast? = some z) (q : Q (.int z) H) : rIx K (.ref a) (.int (-1)) H Q := by
  obtain ⟨ys, rfl⟩ := List.getLast?_eq_some_iff.mp e
  have g : atI ((ys ++ [z]).map V.int) (-1) = some (.int z) := by
    rw [List.map_append]
    exact atI_last _ _
  rcases h with h | h
  · exact .inl ⟨_, _, _, _, rfl, rfl, .of h, g, q⟩
  · exact .inr (.inl ⟨_, _, _, _, rfl, rfl, .of h, g, q⟩)
theorem at_map {xs : List Int} {j : Nat} (h : j < xs.length) : (xs.map V.int)[j]? = some (.int (xs.getD j 0)) := by
  rw [List.getElem?_map, List.getElem?_eq_getElem h, List.getD_eq_getElem?_getD, List.getElem?_eq_getElem h]
  rfl
/-! slices -/
section
variable {X : Cx} {K : PySem.W.Frag}
def rSlQ (K : PySem.W.Frag) : V → Option Int → Option Int → Hp → VK → Prop := fun x lo hi H Q => rSlL K x lo hi H Q ∨ rSlA K x lo hi H Q
theorem sl_seqK (h : X.K = K) : SlR X (rSlQ K) := by
  subst h
  exact sl_list.or sl_tupA
theorem sl_tupK (h : X.K = K) : SlR X (rSlA K) := by
  subst h
  exact sl_tupA
theorem sl_listK (h : X.K = K) : SlR X (rSlL K) := by
  subst h
  exact sl_list
theorem op_catK (h : X.K = K) : OpR X (binaryOp .Add) (rCatA K) := by
  subst h
  exact op_catA
theorem op_repTK (h : X.K = K) : OpR X (binaryOp .Mult) (rRepT K) := by
  subst h
  exact op_repT
theorem op_eqDK (h : X.K = K) (hu : X.A.units + 64 < cLine) : OpR X (compareOp .Eq) (rEqD K) := by
  subst h
  exact op_eqD hu
theorem op_neDK (h : X.K = K) (hu : X.A.units + 64 < cLine) : OpR X (compareOp .NotEq) (rNeD K) := by
  subst h
  exact op_neD hu
theorem call_minK (h : X.K = K) (hc : X.calm = true) : CallR X (.builtin "min") (rMin K) := by
  subst h
  exact cr_min hc
theorem call_isiK' (h : X.K = K) : CallR X (.builtin "isinstance") (rIsi K) := by
  subst h
  exact call_isi
end
theorem cut_map {xs : List Int} {lo hi : Option Int} : cutV (xs.map V.int) lo hi = ((xs.drop (HT.sIx xs.length 0 lo)).take (HT.sIx xs.length xs.length hi - HT.sIx xs.length 0 lo)).map V.int := by
  unfold cutV
  rw [List.length_map, List.map_take, List.map_drop]
/-- a slice of a tuple -/
theorem slt {K : PySem.W.Frag} {H : Hp} {a : Addr} {xs ys : List Int} {lo hi : Option Int} {Q : VK} (h : TupI H a xs) (e : (xs.drop (HT.sIx xs.length 0 lo)).take (HT.sIx xs.length xs.length hi - HT.sIx xs.length 0 lo) = ys)
    (q : ∀ (H' : Hp) (p : Addr), Same H H' → TupI H' p ys → Q (.ref p) H') : rSlA K (.ref a) lo hi H Q := by
  subst e
  refine ⟨a, _, rfl, .of h, fun w => ?_, fun _ p hp => q _ p (same_new hp) ?_⟩
  · refine q H a (Same.refl H) ?_
    rw [List.length_map] at w
    rw [w.1, w.2, List.drop_zero, Nat.sub_zero, List.take_length]
    exact h
  · unfold TupI
    rw [upd_same, cut_map]
/-- a slice of a list or tuple -/
theorem slq {K : PySem.W.Frag} {H : Hp} {a : Addr} {xs ys : List Int} {lo hi : Option Int} {Q : VK} (h : SeqI H a xs) (e : (xs.drop (HT.sIx xs.length 0 lo)).take (HT.sIx xs.length xs.length hi - HT.sIx xs.length 0 lo) = ys)
    (q : ∀ (H' : Hp) (p : Addr), Same H H' → SeqI H' p ys → Q (.ref p) H') : rSlQ K (.ref a) lo hi H Q := by
  rcases h with h | h
  · subst e
    refine .inl ⟨a, _, rfl, .of h, fun p hp => q _ p (same_new hp) (.inl ?_)⟩
    rw [upd_same, cut_map]
  · exact .inr (slt h e fun H' p s t => q H' p s (.inr t))
theorem cut_to (xs : List Int) (n : Nat) : (xs.drop (HT.sIx xs.length 0 none)).take (HT.sIx xs.length xs.length (some (n : Int)) - HT.sIx xs.length 0 none) = xs.take n := by
  rw [HT.sIx_none, HT.sIx_nat, List.drop_zero, Nat.sub_zero]
  rcases Nat.le_total n xs.length with c | c
  · rw [Nat.min_eq_left c]
  · rw [Nat.min_eq_right c, List.take_length, List.take_of_length_le c]
theorem cut_from (xs : List Int) {n : Nat} (hn : n ≤ xs.length) : (xs.drop (HT.sIx xs.length 0 (some (n : Int)))).take (HT.sIx xs.length xs.length none - HT.sIx xs.length 0 (some (n : Int))) = xs.drop n := by
  rw [HT.sIx_none, HT.sIx_nat, Nat.min_eq_left hn]
  exact List.take_of_length_le (by rw [List.length_drop]; exact Nat.le_refl _)
theorem slt_to {K : PySem.W.Frag} {H : Hp} {a : Addr} {xs : List Int} {k : Int} {n : Nat} {Q : VK} (h : TupI H a xs) (ek : k = (n : Int))
    (q : ∀ (H' : Hp) (p : Addr), Same H H' → TupI H' p (xs.take n) → Q (.ref p) H') : rSlA K (.ref a) none (some k) H Q := by
  subst ek
  exact slt h (cut_to xs n) q
theorem slt_from {K : PySem.W.Frag} {H : Hp} {a : Addr} {xs : List Int} {k : Int} {n : Nat} {Q : VK} (h : TupI H a xs) (ek : k = (n : Int)) (hn : n ≤ xs.length)
    (q : ∀ (H' : Hp) (p : Addr), Same H H' → TupI H' p (xs.drop n) → Q (.ref p) H') : rSlA K (.ref a) (some k) none H Q := by
  subst ek
  exact slt h (cut_from xs hn) q
theorem slq_to {K : PySem.W.Frag} {H : Hp} {a : Addr} {xs : List Int} {k : Int} {n : Nat} {Q : VK} (h : SeqI H a xs) (ek : k = (n : Int))
    (q : ∀ (H' : Hp) (p : Addr), Same H H' → SeqI H' p (xs.take n) → Q (.ref p) H') : rSlQ K (.ref a) none (some k) H Q := by
  subst ek
  exact slq h (cut_to xs n) q
theorem slq_mid {K : PySem.W.Frag} {H : Hp} {a : Addr} {xs : List Int} {k k2 : Int} {n m : Nat} {Q : VK} (h : SeqI H a xs) (ek : k = (n : Int)) (ek2 : k2 = (m : Int)) (hn : n ≤ xs.length) (hm : m ≤ xs.length)
    (q : ∀ (H' : Hp) (p : Addr), Same H H' → SeqI H' p ((xs.drop n).take (m - n)) → Q (.ref p) H') : rSlQ K (.ref a) (some k) (some k2) H Q := by
  subst ek
  subst ek2
  refine slq h ?_ q
  rw [HT.sIx_nat, HT.sIx_nat, Nat.min_eq_left hn, Nat.min_eq_left hm]
/-- tuple(x) -/
theorem tupq {K : PySem.W.Frag} {H : Hp} {a : Addr} {xs : List Int} {Q : VK} (h : SeqI H a xs) (q : ∀ (H' : Hp) (p : Addr), Same H H' → TupI H' p xs → Q (.ref p) H') : rTupOf K [.ref a] H Q := by
  rcases h with h | h
  · exact ⟨a, _, rfl, .inl ⟨.of h, fun p hp => q _ p (same_new hp) upd_same⟩⟩
  · exact ⟨a, _, rfl, .inr ⟨.of h, q H a (Same.refl H) h⟩⟩
/-- x + y of tuples -/
theorem catq {K : PySem.W.Frag} {H : Hp} {a b : Addr} {xs ys : List Int} {Q : VK} (h : TupI H a xs) (g : TupI H b ys) (hl : xs.length + ys.length ≤ 1000000) (q : ∀ (H' : Hp) (p : Addr), Same H H' → TupI H' p (xs ++ ys) → Q (.ref p) H') : rCatA K (.ref a) (.ref b) H Q := by
  refine ⟨a, b, _, _, rfl, rfl, .of h, .of g, ?_, fun z => ?_, fun _ z => ?_, fun _ _ p hp => ?_⟩
  · rw [List.length_map, List.length_map]
    exact Nat.le_trans hl (by decide)
  · have e : xs = [] := List.map_eq_nil_iff.mp z
    refine q H b (Same.refl H) ?_
    rw [e]
    exact g
  · have e : ys = [] := List.map_eq_nil_iff.mp z
    refine q H a (Same.refl H) ?_
    rw [e, List.append_nil]
    exact h
  · refine q _ p (same_new hp) ?_
    unfold TupI
    rw [upd_same, List.map_append]
/-- a slice of a list -/
theorem sll_from {K : PySem.W.Frag} {H : Hp} {a : Addr} {xs : List Int} {k : Int} {n : Nat} {Q : VK} (h : H a = some (.lst (xs.map V.int))) (ek : k = (n : Int)) (hn : n ≤ xs.length)
    (q : ∀ p, H p = none → Q (.ref p) (upd H p (.lst ((xs.drop n).map V.int)))) : rSlL K (.ref a) (some k) none H Q := by
  subst ek
  refine ⟨a, _, rfl, .of h, fun p hp => ?_⟩
  rw [cut_map, cut_from xs hn]
  exact q p hp
theorem sll_to {K : PySem.W.Frag} {H : Hp} {a : Addr} {xs : List Int} {k : Int} {n : Nat} {Q : VK} (h : H a = some (.lst (xs.map V.int))) (ek : k = (n : Int))
    (q : ∀ p, H p = none → Q (.ref p) (upd H p (.lst ((xs.take n).map V.int)))) : rSlL K (.ref a) none (some k) H Q := by
  subst ek
  refine ⟨a, _, rfl, .of h, fun p hp => ?_⟩
  rw [cut_map, cut_to xs n]
  exact q p hp
/-! == of data -/
theorem eqvAll_int : ∀ xs ys : List Int, PyData.eqvAll (xs.map PyData.int) (ys.map PyData.int) = decide (xs = ys)
  | [], [] => by simp [PyData.eqvAll]
  | [], y :: ys => by simp [PyData.eqvAll]
  | x :: xs, [] => by simp [PyData.eqvAll]
  | x :: xs, y :: ys => by
    rw [List.map_cons, List.map_cons, PyData.eqvAll, eqvAll_int xs ys, PyData.eqv]
    by_cases c : x = y
    · by_cases d : xs = ys
      · simp [c, d]
      · simp [c, d]
    · simp [c]
theorem eqv_tup (xs ys : List Int) : PyData.eqv (.tuple (xs.map PyData.int)) (.tuple (ys.map PyData.int)) = decide (xs = ys) := by
  rw [PyData.eqv]
  exact eqvAll_int xs ys
theorem eqv_lst (xs ys : List Int) : PyData.eqv (.list (xs.map PyData.int)) (.list (ys.map PyData.int)) = decide (xs = ys) := by
  rw [PyData.eqv]
  exact eqvAll_int xs ys
theorem layAll : ∀ xs : List Int, PyData.canLayAll0 (xs.map PyData.int) = true
  | [] => rfl
  | x :: xs => by
    rw [List.map_cons, PyData.canLayAll0, layAll xs]
    rfl
theorem depAll : ∀ xs : List Int, PyData.depthAll (xs.map PyData.int) = 0
  | [] => by simp [PyData.depthAll]
  | x :: xs => by
    rw [List.map_cons, PyData.depthAll, depAll xs]
    simp [PyData.depth]
theorem shaped_tup (xs : List Int) : SeqAt.shaped (.tuple (xs.map PyData.int)) = true := by
  unfold SeqAt.shaped
  rw [PyData.canLay0, layAll, PyData.depth, depAll]
  rfl
theorem shaped_lst (xs : List Int) : SeqAt.shaped (.list (xs.map PyData.int)) = true := by
  unfold SeqAt.shaped
  rw [PyData.canLay0, layAll, PyData.depth, depAll]
  rfl
theorem dpAll_int {K : PySem.W.Frag} {H : Hp} : ∀ xs : List Int, DpAll K H (xs.map V.int) (xs.map PyData.int)
  | [] => .nil
  | x :: xs => .cons (.int x) (dpAll_int xs)
theorem dp_lst {K : PySem.W.Frag} {H : Hp} {a : Addr} {xs : List Int} (h : H a = some (.lst (xs.map V.int))) : Dp K H (.ref a) (.list (xs.map PyData.int)) := .lst (.of h) (dpAll_int xs)
theorem dp_tup {K : PySem.W.Frag} {H : Hp} {a : Addr} {xs : List Int} (h : TupI H a xs) : Dp K H (.ref a) (.tuple (xs.map PyData.int)) := .tup (.of h) (dpAll_int xs)
theorem ite_ne {x y : Int} {A B : Prop} (h1 : x ≠ y → A) (h2 : x = y → B) : if (!decide (V.int x = V.int y)) = true then A else B := by
  by_cases c : x = y
  · rw [c, decide_eq_true rfl]
    exact iteF (h2 c)
  · rw [decide_eq_false (fun z => c (V.int.inj z))]
    exact iteT (h1 c)
theorem ite_eq {x y : Int} {A B : Prop} (h1 : x = y → A) (h2 : x ≠ y → B) : if decide (V.int x = V.int y) = true then A else B := by
  by_cases c : x = y
  · rw [c, decide_eq_true rfl]
    exact iteT (h1 c)
  · rw [decide_eq_false (fun z => c (V.int.inj z))]
    exact iteF (h2 c)
theorem ite_lt {x y : Int} {A B : Prop} (h1 : x < y → A) (h2 : y ≤ x → B) : if decide (x < y) = true then A else B := by
  by_cases c : x < y
  · rw [decide_eq_true c]
    exact iteT (h1 c)
  · rw [decide_eq_false c]
    exact iteF (h2 (by omega))
/-! ### the letters of a word -/
def wat (h l : List Int) (t : Nat) : Int := if t < h.length then h.getD t 0 else l.getD ((t - h.length) % l.length) 0
theorem wat_head {h l : List Int} {t : Nat} (c : t < h.length) : (h.map V.int)[t]? = some (.int (wat h l t)) := by
  unfold wat
  rw [if_pos c, List.getElem?_map, List.getElem?_eq_getElem c, List.getD_eq_getElem?_getD, List.getElem?_eq_getElem c]
  rfl
theorem wat_loop {h l : List Int} {t : Nat} (c : ¬ t < h.length) (n : l ≠ []) : (l.map V.int)[(t - h.length) % l.length]? = some (.int (wat h l t)) := by
  have hl : 0 < l.length := List.length_pos_iff.mpr n
  have c2 : (t - h.length) % l.length < l.length := Nat.mod_lt _ hl
  unfold wat
  rw [if_neg c, List.getElem?_map, List.getElem?_eq_getElem c2, List.getD_eq_getElem?_getD, List.getElem?_eq_getElem c2]
  rfl
theorem ix_mod {t n m : Nat} (h : n ≤ t) : ((t : Int) - (n : Int)) % (m : Int) = (((t - n) % m : Nat) : Int) := by
  have e : ((t : Int) - (n : Int)) = ((t - n : Nat) : Int) := by omega
  rw [e]
  rfl
/-! ### promises of the helpers -/
def spTake : Sp := fun vs H Q _ => ∃ (d : Addr) (n : Int), vs = [.ref d, .int n] ∧ Drw H d ∧ 0 < n ∧
  ∀ (r : Int) (ds : List Int), 0 ≤ r → r < n → Q (.int r) (upd H d (.lst (ds.map V.int)))
def spDraws (K : PySem.W.Frag) : Sp := fun vs H Q _ => ∃ (a : Addr) (ns : List Int) (c : Nat), vs = [.ref a, .int c] ∧ SqL K H a (ns.map V.int) ∧ c ≤ 1000 ∧
  ∀ (H' : Hp) (d : Addr), Same H H' → H d = none → Drw H' d → Q (.ref d) H'
def spAt : Sp := fun vs H Q _ => ∃ (p : Addr) (h l : List Int) (t : Nat), vs = [.ref p, .int t] ∧ Pr H p h l ∧ l ≠ [] ∧ Q (.int (wat h l t)) H
def spLasso : Sp := fun vs H Q _ => ∃ (d : Addr) (n : Int) (m : Nat), vs = [.ref d, .int n, .int m] ∧ Drw H d ∧ 0 < n ∧ 0 < m ∧ m ≤ 1000 ∧
  ∀ (H' : Hp) (p : Addr) (h l : List Int), Kp d H H' → Drw H' d → Las H' p h l → h.length ≤ m → l ≠ [] → l.length ≤ m → (∀ x ∈ h, 0 ≤ x ∧ x < n) → (∀ x ∈ l, 0 ≤ x ∧ x < n) → Q (.ref p) H'
/-- v says where f and g first differ below n -/
def IsDiff (f g : Nat → Int) (n : Nat) (v : V) : Prop := (v = .non ∧ ∀ t < n, f t = g t) ∨ ∃ t, t < n ∧ v = .int (t : Nat) ∧ f t ≠ g t ∧ ∀ s < t, f s = g s
theorem IsDiff.uniq {f g : Nat → Int} {n : Nat} {v u : V} (a : IsDiff f g n v) (b : IsDiff f g n u) : v = u := by
  rcases a with ⟨rfl, a⟩ | ⟨t, ht, rfl, a1, a2⟩
  · rcases b with ⟨rfl, b⟩ | ⟨s, hs, rfl, b1, b2⟩
    · rfl
    · exact absurd (a s hs) b1
  · rcases b with ⟨rfl, b⟩ | ⟨s, hs, rfl, b1, b2⟩
    · exact absurd (b t ht) a1
    · rcases Nat.lt_trichotomy t s with c | c | c
      · exact absurd (b2 t c) a1
      · rw [c]
      · exact absurd (a2 s c) b1
theorem IsDiff.swap {f g : Nat → Int} {n : Nat} {v : V} (a : IsDiff f g n v) : IsDiff g f n v := by
  rcases a with ⟨rfl, a⟩ | ⟨t, ht, rfl, a1, a2⟩
  · exact .inl ⟨rfl, fun t h => (a t h).symm⟩
  · exact .inr ⟨t, ht, rfl, a1.symm, fun s h => (a2 s h).symm⟩
def dfn (h1 l1 h2 l2 : List Int) : Nat := max h1.length h2.length + l1.length + l2.length
def spFd : Sp := fun vs H Q _ => ∃ (p q : Addr) (h1 l1 h2 l2 : List Int), vs = [.ref p, .ref q] ∧ Las H p h1 l1 ∧ Las H q h2 l2 ∧ l1 ≠ [] ∧ l2 ≠ [] ∧ dfn h1 l1 h2 l2 ≤ 1000000 ∧
  ∀ v, IsDiff (wat h1 l1) (wat h2 l2) (dfn h1 l1 h2 l2) v → Q v H
theorem max_if (a b : Nat) : (if ((b : Nat) : Int) > (a : Int) then (b : Int) else (a : Int)) = ((max a b : Nat) : Int) := by
  by_cases h : ((b : Nat) : Int) > (a : Int)
  · rw [if_pos h]
    omega
  · rw [if_neg h]
    omega
/-- the letters of a list, by places -/
def lw (l : List Int) : Nat → Int := fun i => l.getD i 0
def spPeriod : Sp := fun vs H Q _ => ∃ (a : Addr) (l : List Int), vs = [.ref a] ∧ SeqI H a l ∧ l ≠ [] ∧ l.length ≤ 1000000 ∧
  ∀ (H' : Hp) (r : Nat), Same H H' → Wd.Least (lw l) l.length r → Q (.int r) H'
/-- the normal form (h', l') of (h, l) -/
structure Short (h l h' l' : List Int) : Prop where
  ne : l' ≠ []
  same : ∀ t, wat h' l' t = wat h l t
  hl : h'.length ≤ h.length
  ll : l'.length ≤ l.length
  last : h' ≠ [] → h'.getLast? ≠ l'.getLast?
  prim : ∀ p, 0 < p → p < l'.length → p ∣ l'.length → ∃ i, i + p < l'.length ∧ lw l' i ≠ lw l' (i + p)
  memH : ∀ x ∈ h', x ∈ h
  memL : ∀ x ∈ l', x ∈ l
/-- the letter of the repeated word at any whole number of turns from where it begins -/
def bk (l : List Int) (r : Nat) (z : Int) : Int := lw l ((z % (r : Int)).toNat)
def rot (l : List Int) (r c : Nat) : List Int := (l.drop c).take (r - c) ++ l.take c
theorem rot_len {l : List Int} {r c : Nat} (hc : c < r) (hr : r ≤ l.length) : (rot l r c).length = r := by
  unfold rot
  rw [List.length_append, List.length_take, List.length_drop, List.length_take]
  omega
theorem lw_get {l : List Int} {i : Nat} (h : i < l.length) : l[i]? = some (lw l i) := by
  unfold lw
  rw [List.getD_eq_getElem?_getD, List.getElem?_eq_getElem h]
  rfl
theorem lw_of {l : List Int} {i : Nat} {x : Int} (h : l[i]? = some x) : lw l i = x := by
  unfold lw
  rw [List.getD_eq_getElem?_getD, h]
  rfl
theorem rot_at {l : List Int} {r c j : Nat} (hc : c < r) (hr : r ≤ l.length) (hj : j < r) : lw (rot l r c) j = lw l ((j + c) % r) := by
  apply lw_of
  unfold rot
  have e1 : ((l.drop c).take (r - c)).length = r - c := by
    rw [List.length_take, List.length_drop]
    omega
  rcases Nat.lt_or_ge j (r - c) with h | h
  · rw [List.getElem?_append_left (by rw [e1]; exact h), List.getElem?_take, if_pos h, List.getElem?_drop, Nat.mod_eq_of_lt (by omega), Nat.add_comm c j]
    exact lw_get (by omega)
  · rw [List.getElem?_append_right (by rw [e1]; exact h), e1, List.getElem?_take, if_pos (by omega)]
    have e2 : (j + c) % r = j - (r - c) := by
      rw [Nat.mod_eq_sub_mod (by omega), Nat.mod_eq_of_lt (by omega)]
      omega
    rw [e2]
    exact lw_get (by omega)
theorem bk_shift {l : List Int} {r : Nat} {a b z : Int} (h : a = b + r * z) : bk l r a = bk l r b := by
  unfold bk
  rw [h, Int.add_mul_emod_self_left]
theorem bk_nat {l : List Int} {r t : Nat} : bk l r (t : Int) = lw l (t % r) := rfl
theorem least_le {w : Nat → Int} {n r : Nat} (hn : 0 < n) (L : Wd.Least w n r) : r ≤ n := Nat.le_of_dvd hn L.dvd
/-- the letters of l repeated, by the least repetition -/
theorem cyc_least {l : List Int} {r : Nat} (hn : 0 < l.length) (L : Wd.Least (lw l) l.length r) (i : Nat) : lw l (i % l.length) = bk l r (i : Int) := by
  have h1 : Wd.cyc (lw l) l.length i = Wd.cyc (lw l) l.length (i % r) := L.rp.mod
  have h2 : Wd.cyc (lw l) l.length (i % r) = lw l (i % r) := Wd.cyc_lt (Nat.lt_of_lt_of_le (Nat.mod_lt _ L.pos) (least_le hn L))
  rw [bk_nat, ← h2, ← h1]
  rfl
theorem cut_lt {r : Nat} (hr : 0 < r) (z : Int) : (z % (r : Int)).toNat < r := by
  have h1 := Int.emod_nonneg z (show (r : Int) ≠ 0 by omega)
  have h2 := Int.emod_lt_of_pos z (show (0 : Int) < (r : Int) by omega)
  omega
theorem cut_int {r : Nat} (hr : 0 < r) (z : Int) : (((z % (r : Int)).toNat : Nat) : Int) = z - r * (z / r) := by
  have h1 := Int.emod_nonneg z (show (r : Int) ≠ 0 by omega)
  rw [Int.toNat_of_nonneg h1, Int.emod_def]
theorem rot_bk {l : List Int} {r : Nat} (hr0 : 0 < r) (hr : r ≤ l.length) (z : Int) (j : Nat) : lw (rot l r (z % (r : Int)).toNat) (j % r) = bk l r ((j : Int) + z) := by
  rw [rot_at (cut_lt hr0 z) hr (Nat.mod_lt _ hr0), Nat.mod_add_mod]
  have h : bk l r (((j + (z % (r : Int)).toNat : Nat)) : Int) = bk l r ((j : Int) + z) := bk_shift (z := -(z / r)) (by
    rw [Int.natCast_add, cut_int hr0, Int.mul_neg]
    omega)
  rw [← h]
  rfl
theorem short_of {h l : List Int} {r k : Nat} (hne : l ≠ []) (L : Wd.Least (lw l) l.length r) (hk : k ≤ h.length)
    (hB : ∀ t, k ≤ t → t < h.length → lw h t = bk l r ((t : Int) - (h.length : Int))) (hX : k = 0 ∨ lw h (k - 1) ≠ bk l r ((k : Int) - 1 - (h.length : Int))) :
    Short h l (h.take k) (rot l r (((k : Int) - (h.length : Int)) % (r : Int)).toNat) := by
  have hn : 0 < l.length := List.length_pos_iff.mpr hne
  have hr0 := L.pos
  have hr := least_le hn L
  have hlen := rot_len (cut_lt hr0 ((k : Int) - (h.length : Int))) hr
  have htk : (h.take k).length = k := by
    rw [List.length_take]
    omega
  refine ⟨fun z => ?_, fun t => ?_, by rw [htk]; exact hk, by rw [hlen]; exact hr, fun hh => ?_, fun p hp hpl hpd => ?_, fun x hx => List.mem_of_mem_take hx, fun x hx => ?_⟩
  · rw [z] at hlen
    have : (0 : Nat) = r := hlen
    omega
  · unfold wat
    rw [htk, hlen]
    by_cases c : t < k
    · rw [if_pos c, if_pos (by omega), List.getD_eq_getElem?_getD, List.getD_eq_getElem?_getD, List.getElem?_take, if_pos c]
    · rw [if_neg c]
      have e1 := rot_bk (l := l) hr0 hr ((k : Int) - (h.length : Int)) (t - k)
      have e2 : ((t - k : Nat) : Int) + ((k : Int) - (h.length : Int)) = (t : Int) - (h.length : Int) := by omega
      rw [e2] at e1
      show lw _ _ = _
      rw [e1]
      by_cases d : t < h.length
      · rw [if_pos d]
        exact (hB t (by omega) d).symm
      · rw [if_neg d]
        have e3 : (t : Int) - (h.length : Int) = ((t - h.length : Nat) : Int) := by omega
        rw [e3]
        exact (cyc_least hn L _).symm
  · have hk0 : k ≠ 0 := fun z => hh (by rw [z]; rfl)
    rcases hX with z | z
    · exact absurd z hk0
    · rw [List.getLast?_eq_getElem?, List.getLast?_eq_getElem?, htk, hlen]
      rw [List.getElem?_take, if_pos (by omega), lw_get (show k - 1 < h.length by omega), lw_get (show r - 1 < (rot l r _).length by rw [hlen]; omega)]
      intro q
      refine z ?_
      rw [Option.some.inj q]
      have e1 := rot_bk (l := l) hr0 hr ((k : Int) - (h.length : Int)) (r - 1)
      rw [Nat.mod_eq_of_lt (show r - 1 < r by omega)] at e1
      rw [e1]
      exact bk_shift (z := 1) (by omega)
  · rw [hlen] at hpl hpd ⊢
    apply Classical.byContradiction
    intro hno
    have hall : ∀ i, i + p < r → lw (rot l r (((k : Int) - (h.length : Int)) % (r : Int)).toNat) i = lw (rot l r (((k : Int) - (h.length : Int)) % (r : Int)).toNat) (i + p) := fun i hi =>
      Classical.byContradiction fun q => hno ⟨i, hi, q⟩
    have hrp := Wd.rp_of hp hpd hr0 hall
    have key : ∀ i, Wd.cyc (lw l) l.length i = Wd.cyc (lw (rot l r (((k : Int) - (h.length : Int)) % (r : Int)).toNat)) r (i + (r - (((k : Int) - (h.length : Int)) % (r : Int)).toNat)) := by
      intro i
      have hc := cut_lt hr0 ((k : Int) - (h.length : Int))
      have a1 : Wd.cyc (lw l) l.length i = bk l r (i : Int) := cyc_least hn L i
      have a2 := rot_at hc hr (Nat.mod_lt (i + (r - (((k : Int) - (h.length : Int)) % (r : Int)).toNat)) hr0)
      rw [a1]
      show _ = lw _ (_ % r)
      rw [a2, Nat.mod_add_mod, show i + (r - (((k : Int) - (h.length : Int)) % (r : Int)).toNat) + (((k : Int) - (h.length : Int)) % (r : Int)).toNat = i + r by omega, Nat.add_mod_right]
      rfl
    have hR : Wd.Rp (lw l) l.length p := fun i => by
      rw [key, key, Nat.add_right_comm]
      exact hrp _
    have := L.min p hp (Nat.dvd_trans hpd L.dvd) hR
    omega
  · unfold rot at hx
    rcases List.mem_append.mp hx with z | z
    · exact List.mem_of_mem_drop (List.mem_of_mem_take z)
    · exact List.mem_of_mem_take z
theorem rp_mod {w : Nat → Int} {n p q : Nat} (hp : Wd.Rp w n p) (hq : Wd.Rp w n q) : Wd.Rp w n (q % p) := fun i => by
  have a := hp.mul (q / p) (i + q % p)
  rw [Nat.mul_comm, Nat.add_assoc, Nat.mod_add_div] at a
  rw [← a]
  exact hq i
theorem rp_gcd {w : Nat → Int} {n : Nat} (p q : Nat) : Wd.Rp w n p → Wd.Rp w n q → Wd.Rp w n (Nat.gcd p q) := by
  induction p, q using Nat.gcd.induction with
  | H0 q => intro _ hq; rw [Nat.gcd_zero_left]; exact hq
  | H1 p q hp ih => intro h1 h2; rw [Nat.gcd_rec]; exact ih (rp_mod h1 h2) h1
/-- the normal form -/
structure Nrm (h l : List Int) : Prop where
  ne : l ≠ []
  last : h ≠ [] → h.getLast? ≠ l.getLast?
  prim : ∀ p, 0 < p → p < l.length → p ∣ l.length → ∃ i, i + p < l.length ∧ lw l i ≠ lw l (i + p)
theorem Short.nrm {h l h' l' : List Int} (s : Short h l h' l') : Nrm h' l' := ⟨s.ne, s.last, s.prim⟩
theorem Nrm.pos {h l : List Int} (N : Nrm h l) : 0 < l.length := List.length_pos_iff.mpr N.ne
theorem wat_cyc {h l : List Int} {t : Nat} (c : h.length ≤ t) : wat h l t = Wd.cyc (lw l) l.length (t - h.length) := by
  unfold wat
  rw [if_neg (by omega)]
  rfl
/-- every period that the word has from some turn on is a multiple of the loop's length -/
theorem Nrm.dvd {h l : List Int} (N : Nrm h l) {p M : Nat} (hP : ∀ t, M ≤ t → wat h l (t + p) = wat h l t) : l.length ∣ p := by
  have hr := N.pos
  have hRp : Wd.Rp (lw l) l.length p := fun i => by
    have self := Wd.rp_self (lw l) l.length
    have e1 := self.mul M i
    have e2 := self.mul M (i + p)
    have hM : M ≤ M * l.length := Nat.le_mul_of_pos_right M hr
    have q := hP (h.length + (i + M * l.length)) (by omega)
    rw [wat_cyc (by omega), wat_cyc (by omega)] at q
    rw [show h.length + (i + M * l.length) + p - h.length = i + p + M * l.length by omega, show h.length + (i + M * l.length) - h.length = i + M * l.length by omega, e1, e2] at q
    exact q
  have hg := rp_gcd p l.length hRp (Wd.rp_self (lw l) l.length)
  have gd : Nat.gcd p l.length ∣ l.length := Nat.gcd_dvd_right p l.length
  have gp : 0 < Nat.gcd p l.length := Nat.gcd_pos_of_pos_right p hr
  have gl := Nat.le_of_dvd hr gd
  rcases Nat.lt_or_ge (Nat.gcd p l.length) l.length with c | c
  · obtain ⟨i, hi, hne⟩ := N.prim _ gp c gd
    refine absurd ?_ hne
    have := hg i
    rw [Wd.cyc_lt hi, Wd.cyc_lt (by omega)] at this
    exact this.symm
  · have e : Nat.gcd p l.length = l.length := by omega
    rw [← e]
    exact Nat.gcd_dvd_left p l.length
theorem wat_per {h l : List Int} {t : Nat} (c : h.length ≤ t) : wat h l (t + l.length) = wat h l t := by
  rw [wat_cyc c, wat_cyc (by omega), show t + l.length - h.length = (t - h.length) + l.length by omega]
  exact Wd.rp_self (lw l) l.length _
theorem last_at {l : List Int} (n : l ≠ []) : l.getLast? = some (lw l (l.length - 1)) := by
  have := List.length_pos_iff.mpr n
  rw [List.getLast?_eq_getElem?]
  exact lw_get (by omega)
theorem Nrm.head_le {h l g m : List Int} (N : Nrm h l) (hs : ∀ t, wat h l t = wat g m t) (e : l.length = m.length) : h.length ≤ g.length := by
  rcases Nat.lt_or_ge g.length h.length with c | c
  · exfalso
    have hne : h ≠ [] := List.length_pos_iff.mp (by omega)
    refine N.last hne ?_
    rw [last_at hne, last_at N.ne]
    congr 1
    have hp := N.pos
    have a1 : wat h l (h.length - 1) = lw h (h.length - 1) := by
      unfold wat
      rw [if_pos (by omega)]
      rfl
    have a2 : wat h l (h.length - 1 + l.length) = lw l (l.length - 1) := by
      rw [wat_cyc (by omega), show h.length - 1 + l.length - h.length = l.length - 1 by omega, Wd.cyc_lt (by omega)]
    rw [← a1, ← a2, hs, hs, e]
    exact (wat_per (by omega)).symm
  · exact c
theorem Nrm.uniq {h l g m : List Int} (N : Nrm h l) (M : Nrm g m) (hs : ∀ t, wat h l t = wat g m t) : h = g ∧ l = m := by
  have d1 : l.length ∣ m.length := N.dvd (M := g.length) fun t ht => by
    rw [hs, hs]
    exact wat_per ht
  have d2 : m.length ∣ l.length := M.dvd (M := h.length) fun t ht => by
    rw [← hs, ← hs]
    exact wat_per ht
  have e : l.length = m.length := Nat.dvd_antisymm d1 d2
  have e2 : h.length = g.length := Nat.le_antisymm (N.head_le hs e) (M.head_le (fun t => (hs t).symm) e.symm)
  refine ⟨List.ext_getElem e2 fun i h1 h2 => ?_, List.ext_getElem e fun i h1 h2 => ?_⟩
  · have := hs i
    unfold wat at this
    rw [if_pos h1, if_pos h2, List.getD_eq_getElem?_getD, List.getD_eq_getElem?_getD, List.getElem?_eq_getElem h1, List.getElem?_eq_getElem h2] at this
    exact this
  · have := hs (h.length + i)
    rw [wat_cyc (by omega), wat_cyc (by omega), show h.length + i - h.length = i by omega, show h.length + i - g.length = i by omega, Wd.cyc_lt h1, Wd.cyc_lt h2] at this
    have a1 := lw_get h1
    have a2 := lw_get h2
    rw [List.getElem?_eq_getElem h1] at a1
    rw [List.getElem?_eq_getElem h2] at a2
    rw [Option.some.inj a1, Option.some.inj a2, this]
theorem at_last {l : List Int} (n : l ≠ []) : atI (l.map V.int) (-1) = some (.int (lw l (l.length - 1))) := by
  have hp := List.length_pos_iff.mpr n
  have e : l.map V.int = (l.dropLast.map V.int) ++ [.int (l.getLast n)] := by
    rw [← List.map_singleton, ← List.map_append, List.dropLast_concat_getLast]
  rw [e, atI_last]
  have q := last_at n
  rw [List.getLast?_eq_getLast n] at q
  rw [Option.some.inj q]
/-! repetition of a text -/
theorem flat_at {w : List Int} : ∀ (k i : Nat), i < k * w.length → (List.replicate k w).flatten[i]? = w[i % w.length]?
  | 0, i, h => by
    rw [Nat.zero_mul] at h
    exact absurd h (Nat.not_lt_zero i)
  | k + 1, i, h => by
    rw [List.replicate_succ, List.flatten_cons]
    rcases Nat.lt_or_ge i w.length with c | c
    · rw [List.getElem?_append_left c, Nat.mod_eq_of_lt c]
    · rw [List.getElem?_append_right c, flat_at k (i - w.length) (by rw [Nat.succ_mul] at h; omega), ← Nat.mod_eq_sub_mod c]
theorem flat_per {l : List Int} {p k : Nat} (hp : 0 < p) (hpl : p ≤ l.length) (e : l = (List.replicate k (l.take p)).flatten) (hk : k * p = l.length) : ∀ i, i + p < l.length → lw l i = lw l (i + p) := by
  intro i hi
  have el : (l.take p).length = p := by
    rw [List.length_take]
    omega
  have at_ : ∀ j, j < l.length → l[j]? = (l.take p)[j % p]? := fun j hj => by
    have h0 := flat_at (w := l.take p) k j (by rw [el, hk]; exact hj)
    rw [← e, el] at h0
    exact h0
  have h1 := at_ i (by omega)
  have h2 := at_ (i + p) hi
  rw [Nat.add_mod_right, ← h1, lw_get hi, lw_get (show i < l.length by omega)] at h2
  exact (Option.some.inj h2).symm
def spShort : Sp := fun vs H Q _ => ∃ (a b : Addr) (h l : List Int), vs = [.ref a, .ref b] ∧ SeqI H a h ∧ SeqI H b l ∧ l ≠ [] ∧ h.length ≤ 100000 ∧ l.length ≤ 100000 ∧
  ∀ (H' : Hp) (p : Addr) (h' l' : List Int), Same H H' → Las H' p h' l' → Short h l h' l' → Q (.ref p) H'
/-- what suffix hands back -/
def Suf (h l : List Int) (t : Nat) (h' l' : List Int) : Prop := Nrm h' l' ∧ (∀ i, wat h' l' i = wat h l (t + i)) ∧ h'.length ≤ h.length ∧ l'.length ≤ l.length ∧ (∀ x ∈ h', x ∈ h ∨ x ∈ l) ∧ ∀ x ∈ l', x ∈ l
def spSuffix : Sp := fun vs H Q _ => ∃ (p : Addr) (h l : List Int) (t : Nat), vs = [.ref p, .int t] ∧ Las H p h l ∧ l ≠ [] ∧ h.length ≤ 50000 ∧ l.length ≤ 50000 ∧
  ∀ (H' : Hp) (p' : Addr) (h' l' : List Int), Same H H' → Las H' p' h' l' → Suf h l t h' l' → Q (.ref p') H'
def spMake : Sp := fun vs H Q _ => ∃ (a b : Addr) (h l : List Int), vs = [.ref a, .ref b] ∧ H a = some (.lst (h.map V.int)) ∧ H b = some (.lst (l.map V.int)) ∧ l ≠ [] ∧ h.length ≤ 100000 ∧ l.length ≤ 100000 ∧ (∀ x ∈ h, 0 ≤ x) ∧ (∀ x ∈ l, 0 ≤ x) ∧
  ∀ (H' : Hp) (p : Addr) (h' l' : List Int), Same H H' → Las H' p h' l' → Short h l h' l' → Q (.ref p) H'
theorem suf_drop {h l : List Int} {t : Nat} (c : t < h.length) (i : Nat) : wat (h.drop t) l i = wat h l (t + i) := by
  unfold wat
  rw [List.length_drop]
  by_cases d : t + i < h.length
  · rw [if_pos d, if_pos (by omega), List.getD_eq_getElem?_getD, List.getD_eq_getElem?_getD, List.getElem?_drop]
  · rw [if_neg d, if_neg (by omega), show t + i - h.length = i - (h.length - t) by omega]
theorem suf_turn {h l : List Int} {t : Nat} (hn : l ≠ []) (c : h.length ≤ t) (i : Nat) : wat [] (l.drop ((t - h.length) % l.length) ++ l.take ((t - h.length) % l.length)) i = wat h l (t + i) := by
  have hp : 0 < l.length := List.length_pos_iff.mpr hn
  have hc := Nat.mod_lt (t - h.length) hp
  have e : l.drop ((t - h.length) % l.length) ++ l.take ((t - h.length) % l.length) = rot l l.length ((t - h.length) % l.length) := by
    have e3 : (l.drop ((t - h.length) % l.length)).take (l.length - (t - h.length) % l.length) = l.drop ((t - h.length) % l.length) := List.take_of_length_le (by rw [List.length_drop]; exact Nat.le_refl _)
    unfold rot
    rw [e3]
  rw [e, wat_cyc (Nat.zero_le _), wat_cyc (show h.length ≤ t + i by omega), rot_len hc (Nat.le_refl _)]
  show lw _ (_ % _) = lw _ (_ % _)
  rw [rot_at hc (Nat.le_refl _) (Nat.mod_lt _ hp), Nat.mod_add_mod, Nat.add_mod_mod]
  congr 2
  show i - 0 + _ = _
  omega
def spInts : Sp := fun vs H Q _ => ∃ (a : Addr) (xs : List Int) (lo hi : Int), vs = [.ref a, .int lo, .int hi] ∧ TupI H a xs ∧ (∀ x ∈ xs, lo ≤ x ∧ x < hi) ∧ Q (.bl true) H
def spNormal : Sp := fun vs H Q _ => ∃ (p : Addr) (h l : List Int), vs = [.ref p] ∧ Las H p h l ∧ Nrm h l ∧ l.length ≤ 1000 ∧ ∀ H', Same H H' → Q (.bl true) H'
def spIsLasso : Sp := fun vs H Q _ => ∃ (p : Addr) (h l : List Int) (n : Int), vs = [.ref p, .int n] ∧ Las H p h l ∧ Nrm h l ∧ l.length ≤ 1000 ∧ (∀ x ∈ h, 0 ≤ x ∧ x < n) ∧ (∀ x ∈ l, 0 ≤ x ∧ x < n) ∧ ∀ H', Same H H' → Q (.bl true) H'
/-! the same word in other forms -/
theorem wat_mem {h l : List Int} (n : l ≠ []) (t : Nat) : wat h l t ∈ h ∨ wat h l t ∈ l := by
  have hl : 0 < l.length := List.length_pos_iff.mpr n
  unfold wat
  by_cases c : t < h.length
  · rw [if_pos c, List.getD_eq_getElem?_getD, List.getElem?_eq_getElem c]
    exact .inl (List.getElem_mem c)
  · have c2 := Nat.mod_lt (t - h.length) hl
    rw [if_neg c, List.getD_eq_getElem?_getD, List.getElem?_eq_getElem c2]
    exact .inr (List.getElem_mem c2)
theorem range_getD {f : Nat → Int} {n t : Nat} (c : t < n) : ((List.range n).map f).getD t 0 = f t := by
  rw [List.getD_eq_getElem?_getD, List.getElem?_map, List.getElem?_range c]
  rfl
theorem wat_form {h l : List Int} {m k : Nat} (n : l ≠ []) (hk : 0 < k) (t : Nat) :
    wat ((List.range (h.length + m)).map (wat h l)) ((List.range (k * l.length)).map fun t => wat h l (h.length + m + t)) t = wat h l t := by
  have hl : 0 < l.length := List.length_pos_iff.mpr n
  have hkl : 0 < k * l.length := Nat.mul_pos hk hl
  rw [show wat ((List.range (h.length + m)).map (wat h l)) ((List.range (k * l.length)).map fun t => wat h l (h.length + m + t)) t
      = if t < ((List.range (h.length + m)).map (wat h l)).length then ((List.range (h.length + m)).map (wat h l)).getD t 0 else ((List.range (k * l.length)).map fun t => wat h l (h.length + m + t)).getD ((t - ((List.range (h.length + m)).map (wat h l)).length) % ((List.range (k * l.length)).map fun t => wat h l (h.length + m + t)).length) 0 from rfl]
  rw [List.length_map, List.length_range, List.length_map, List.length_range]
  by_cases c : t < h.length + m
  · rw [if_pos c, range_getD c]
  · rw [if_neg c, range_getD (Nat.mod_lt _ hkl), wat_cyc (by omega), wat_cyc (by omega)]
    show lw l (_ % _) = lw l (_ % _)
    congr 1
    have e1 : h.length + m + (t - (h.length + m)) % (k * l.length) - h.length = m + (t - (h.length + m)) % (k * l.length) := by omega
    have e2 : t - h.length = m + (t - (h.length + m)) := by omega
    rw [e1, e2, ← Nat.add_mod_mod, Nat.mod_mod_of_dvd _ ⟨k, Nat.mul_comm k l.length⟩, Nat.add_mod_mod]
theorem wat_front (f h l : List Int) (i : Nat) : wat (f ++ h) l (f.length + i) = wat h l i := by
  unfold wat
  rw [List.length_append]
  by_cases c : i < h.length
  · rw [if_pos c, if_pos (by omega), List.getD_eq_getElem?_getD, List.getD_eq_getElem?_getD, List.getElem?_append_right (by omega), Nat.add_sub_cancel_left]
  · rw [if_neg c, if_neg (by omega), show f.length + i - (f.length + h.length) = i - h.length by omega]
def dLas (h l : List Int) : PyData := .tuple [.tuple (h.map PyData.int), .tuple (l.map PyData.int)]
theorem dp_las {K : PySem.W.Frag} {H : Hp} {p : Addr} {h l : List Int} (x : Las H p h l) : Dp K H (.ref p) (dLas h l) := by
  obtain ⟨a, b, e1, e2, e3⟩ := x
  exact .tup (.of e1) (.cons (dp_tup e2) (.cons (dp_tup e3) .nil))
theorem shaped_las (h l : List Int) : SeqAt.shaped (dLas h l) = true := by
  unfold SeqAt.shaped dLas
  rw [PyData.canLay0, PyData.canLayAll0, PyData.canLayAll0, PyData.canLayAll0, PyData.canLay0, layAll, PyData.canLay0, layAll, PyData.depth, PyData.depthAll, PyData.depthAll, PyData.depthAll, PyData.depth, depAll, PyData.depth, depAll]
  rfl
theorem eqv_las (h l : List Int) : PyData.eqv (dLas h l) (dLas h l) = true := by
  unfold dLas
  rw [PyData.eqv, PyData.eqvAll, PyData.eqvAll, PyData.eqvAll, eqv_tup, eqv_tup]
  simp
def spCell (K : PySem.W.Frag) : Sp := fun vs H Q _ => ∃ (a : Addr) (ns : List Int) (k : Nat), vs = [.ref a, .int k] ∧ SqL K H a (ns.map V.int) ∧ ∀ v : Int, Q (.int v) H
def spNegX (C : Addr) : Sp := fun vs H _ E => ∃ (p : Addr) (t : Int), vs = [.ref p, .int t] ∧ t < 0 ∧ E (.ref C) none H
def spRefuses : Sp := fun vs H Q _ => ∃ (p : Addr) (t : Int), vs = [.ref p, .int t] ∧ t < 0 ∧ Q (.bl true) H
def spSame : Sp := fun vs H Q _ => ∃ (p q : Addr) (h l h2 l2 : List Int), vs = [.ref p, .ref q] ∧ Pr H p h l ∧ Pr H q h2 l2 ∧ l ≠ [] ∧ l2 ≠ [] ∧ dfn h l h2 l2 ≤ 1000000 ∧ (∀ t, wat h l t = wat h2 l2 t) ∧ Q (.bl true) H
def spMakeX (cE cL : Addr) : Sp := fun vs H Q E => ∃ (a b : Addr) (h l : List Int), vs = [.ref a, .ref b] ∧ H a = some (.lst (h.map V.int)) ∧ H b = some (.lst (l.map V.int)) ∧ h.length ≤ 100000 ∧ l.length ≤ 100000 ∧
  (l = [] → E (.ref cE) none H) ∧ (l ≠ [] → (∃ x, (x ∈ h ∨ x ∈ l) ∧ x < 0) → E (.ref cL) none H) ∧
  (l ≠ [] → (∀ x, x ∈ h ∨ x ∈ l → 0 ≤ x) → ∀ (H' : Hp) (p : Addr) (h' l' : List Int), Same H H' → Las H' p h' l' → Short h l h' l' → Q (.ref p) H')
def spOut : Sp := fun vs H Q _ => ∃ (a b : Addr) (h l : List Int), vs = [.ref a, .ref b] ∧ H a = some (.lst (h.map V.int)) ∧ H b = some (.lst (l.map V.int)) ∧ h.length ≤ 100000 ∧ l.length ≤ 100000 ∧
  (l = [] → ∀ (H' : Hp) (p : Addr), Same H H' → H' p = some (.tup [.str "empty", .bl true]) → Q (.ref p) H') ∧
  (l ≠ [] → (∃ x, (x ∈ h ∨ x ∈ l) ∧ x < 0) → ∀ (H' : Hp) (p : Addr), Same H H' → H' p = some (.tup [.str "letter", .bl true]) → Q (.ref p) H') ∧
  (l ≠ [] → (∀ x, x ∈ h ∨ x ∈ l → 0 ≤ x) → ∀ (H' : Hp) (p q : Addr) (h' l' : List Int), Same H H' → H' p = some (.tup [.str "lasso", .ref q]) → Las H' q h' l' → Short h l h' l' → Q (.ref p) H')
theorem neg_cases (h l : List Int) : (∃ x, (x ∈ h ∨ x ∈ l) ∧ x < 0) ∨ ∀ x, x ∈ h ∨ x ∈ l → 0 ≤ x := by
  by_cases c : ∃ x, (x ∈ h ∨ x ∈ l) ∧ x < 0
  · exact .inl c
  · exact .inr fun x hx => by
      rcases Int.lt_or_le x 0 with z | z
      · exact absurd ⟨x, hx, z⟩ c
      · exact z
def spIsInt : Sp := fun vs H Q _ => ∃ (i : Int), vs = [.int i] ∧ Q (.bl true) H
end Bx
/-! ### own errors, two levels below ValueError -/
namespace Bx
open PySem PySem.Spec PyProof.Rows L2
abbrev veB : List Value := [.type "ValueError", .type "Exception", .type "BaseException", .type "object"]
structure ErrC (K : PySem.W.Frag) (mg : Str → Option Value) (x : Str) (C : Addr) : Prop where
  g : mg x = some (.ref C)
  ex : PySem.W.excIn K C veB "ValueError.__new__" = true
  kp : PySem.W.keepIn K (.ref C) = true
  ty : PySem.W.typeIn K (.ref C) = some (.type "type")
  sf : PySem.W.subIn K (.ref C) (.ref C) = some true
  ec : ExcC K C
theorem ErrC.exm {K : PySem.W.Frag} {mg : Str → Option Value} {x : Str} {C : Addr} {cls : Value} {b : Bool} (e : ErrC K mg x C) (h : PySem.W.subIn K cls (.ref C) = some b) : PySem.W.exmOne K cls (.ref C) = some b := PySem.W.exm_ref e.ec.hs e.ec.hd e.ty h
theorem ErrC.me {K : PySem.W.Frag} {mg : Str → Option Value} {x : Str} {C : Addr} (e : ErrC K mg x C) : PySem.W.exmOne K (.ref C) (.ref C) = some true := e.exm e.sf
/-- raise X('..') -/
theorem ErrC.made {X : Cx} {C : Addr} {x m : Str} {j : Nat} {p p2 pos : Pos} (e : ErrC X.K X.mg x C) (hg : Gl X x) (hd : (x == ("__debug__" : Str)) = false := by decide) : PMk X (.Call (.Name x p) [.Constant (.str m) j p2] [] pos) (fun _ H Q => Q (.ref C) none H) :=
  pmk_own PySem.F.excBase_ValueError e.ex e.g e.kp (raises_own e.ec.hs e.ty) hg hd
/-- isinstance(e, c), e the exception that the suite holds -/
def rIsEx (K : PySem.W.Frag) (a : Addr) (cls : Value) (d : Option Addr) : List V → Hp → VK → Prop := fun xs H Q => ∃ D : Addr, cls = .ref D ∧ d = none ∧ ExcC K D ∧ rIsE K D a xs H Q
theorem call_isEx {X : Cx} {K : PySem.W.Frag} {a : Addr} {cls : Value} {d : Option Addr} {oe : Obj} {pn : List (Addr × Obj)} (h : X.K = K) (hz : Zc cls d oe) (hf : ∃ vs, oe.data = .fields vs) : CallR (X.suite a ((a, oe) :: pn)) (.builtin "isinstance") (rIsEx K a cls d) := by
  subst h
  intro pins s σ H xs us Q I r hw
  obtain ⟨D, rfl, rfl, C, hw⟩ := hw
  exact call_isE C hz hf pins s σ H xs us Q I r hw
/-- a def that may raise, by its name -/
structure CalX (P : Program) (w : World) (K : PySem.W.Frag) (mg : Str → Option Value) (base : Heap) (k : Nat) (x : Str) (sp : Sp) : Prop where
  ex : ∃ (f : Addr) (fd : FuncData) (ps : List Str), FnOk P w K mg base (L2.CX P w) k f fd ps sp ∧ mg x = some (.ref f) ∧ PySem.W.keepIn K (.ref f) = true ∧ Binds K fd ps []
theorem pe_cx {X : Cx} {k j : Nat} {x : Str} {sp : Sp} {W : WX} {p pos : Pos} {e : Expr} {es : List Expr} {t : TA} (c : CalX X.prog X.w X.K X.mg X.base k x sp) (hr : Room j X.A) (hk : k ≤ j) (tk : Takes X W) (hg : Gl X x) (ha : PA X (e :: es) t)
    (hdb : (x == ("__debug__" : Str)) = false := by decide) (he : starEach (e :: es) X.env = (false, eval e X.env) :: starEach es X.env := by rfl) (hpl : (backTo pos (starEach es X.env)).any (·.1) = false := by rfl) :
    PE X (.Call (.Name x p) (e :: es) [] pos) (tCallS sp (WE W) t) := by
  obtain ⟨f, fd, ps, F, hm, kp, b⟩ := c.ex
  exact pe_callS F (hr.mono hk) hg hm kp b (fun σ => passAt tk σ) ha hdb he hpl
end Bx
/-! ### several clauses, each with its name: own rule -/
namespace Bx
open PySem PySem.Spec PyProof.Rows L2
/-- what the clauses wish, one after the other: (class, the name's slot, the suite's reading) -/
def wAll (K : PySem.W.Frag) (Wo : WX) (D : Ends) : List (Value × Nat × (Addr → Value → Option Addr → TS)) → WX
  | [] => Wo
  | (c, i, ts) :: r => fun cls d σ H => ∃ b, PySem.W.exmOne K cls c = some b ∧
    (b = true → ∀ a, H a = none → ts a cls d { nx := fun σ' H' => D.nx (σ'.set i none) H', rt := D.rt, bk := fun σ' H' => D.bk (σ'.set i none) H', ct := fun σ' H' => D.ct (σ'.set i none) H' } (σ.set i (some (.ref a))) H) ∧
    (b = false → wAll K Wo D r cls d σ H)
inductive Clauses (Y : Cx) : List ExceptHandler → List (Value × Nat × (Addr → Value → Option Addr → TS)) → Prop
  | nil : Clauses Y [] []
  | cons {x n : Str} {c : Value} {i : Nat} {ts : Addr → Value → Option Addr → TS} {b0 : Stmt} {suite : List Stmt} {p p' : Pos} {cs : List ExceptHandler} {l : List (Value × Nat × (Addr → Value → Option Addr → TS))}
      (hc : Names Y x c) (hi : Y.N[i]? = some n) (hl : Y.env.kindOf n = some .local)
      (su : ∀ (a : Addr) (oe : Obj) (cls : Value) (d : Option Addr) (pn : List (Addr × Obj)), Zc cls d oe → (∃ vs, oe.data = .fields vs) → PSs (Y.suite a ((a, oe) :: pn)) (b0 :: suite) (ts a cls d)) (r : Clauses Y cs l) :
      Clauses Y (.ExceptHandler (some (.Name x p)) (some n) (b0 :: suite) p' :: cs) ((c, i, ts) :: l)
theorem ps_try_all {Y : Cx} {body : List Stmt} {c0 : ExceptHandler} {cs : List ExceptHandler} {l : List (Value × Nat × (Addr → Value → Option Addr → TS))} {pos : Pos} {tb : WX → TS} {Wo : WX}
    (ks : Y.stack = Y.env :: Y.outer) (kf : Y.env.frame = some Y.env.locals) (kN : Y.N.Nodup) (tk : Takes Y Wo)
    (kb : ∀ (W : WX) (pn : List (Addr × Obj)) (xe : Value → Shared → Prop), Takes (Y.tr pn xe) W → PassesOwn (model Y.prog Y.w) Y.A Y.env xe → PSs (Y.tr pn xe) body (tb W))
    (kh : Clauses Y (c0 :: cs) l) : PS Y (.Try body (c0 :: cs) [] [] pos) (fun D σ H => tb (wAll Y.K Wo D l) D σ H) := by
  refine ⟨fun pins u σ H D I hw => ?_⟩
  have okY := I.ok
  have fr := okY.frames
  rw [ks] at fr
  refine wpAny_Try_except ?_
  refine wpAny_mono ((kb (wAll Y.K Wo D l) (Y.pn ++ pins) (fun e u1 => wpAny (model Y.prog Y.w) Y.A (noteFrame e Y.env) (fun _ u2 => wpAny (model Y.prog Y.w) Y.A (setFlight e none) (fun _ u3 =>
    wpAny (model Y.prog Y.w) Y.A (handleBy e Y.env (c0 :: cs)) (SP Y pins D) Y.xe u3) Y.xe u2) Y.xe u1) (fun v g xx => ?_) PassesOwn.looking).run [] u σ H D (I.toTry _) hw) (fun f u1 q => ?_) (fun e u1 q => q)
  · obtain ⟨a, B, sI, pins1, σ1, H1, cls, d, rfl, Jt, nb, up, sk, na, os, ag, w⟩ := xx
    have J : Inv Y pins σ1 H1 sI := Jt.ofTry okY
    have sk1 : Sky B (Y.env :: Y.outer) a (Zc cls d) Y.env.locals g.heap := by rw [← ks]; exact sk
    show wpAny (model Y.prog Y.w) Y.A (noteFrame (.ref a) Y.env) _ _ _
    refine Sky.land Zc.steady fr kf sk1 fun g3 f3 u3 => ?_
    have I3 : Inv Y pins σ1 H1 { g with heap := g3 } := J.landed nb f3.1 (up.trans u3) os ag
    obtain ⟨o3, w3, at3, z3, dt3⟩ := f3.there
    have apart : ∀ {t : Heap} {o : Obj} {vs : Array Value}, t.FunFrames B (Y.env :: Y.outer) → t.get? a = some o → o.data = .fields vs → a ∉ frs (Y.env :: Y.outer) := fun {t o vs} ff e dd hm => by
      obtain ⟨_, o2, e2, q2⟩ := ff.mem hm
      rw [e] at e2
      cases e2
      exact q2 _ dd
    have n0 := apart f3.2.2.1 at3 dt3
    have nL : a ≠ Y.env.locals := fun z => n0 (List.mem_filterMap.mpr ⟨Y.env, List.mem_cons_self, by rw [kf, z]⟩)
    have nF : a ∉ Y.fs := fun hm => by
      obtain ⟨e, he, q⟩ := List.mem_filterMap.mp hm
      exact n0 (List.mem_filterMap.mpr ⟨e, List.mem_cons_of_mem _ he, q⟩)
    have T3 := I3.suite at3 dt3 na nL nF
    have all : ∀ {cs2 : List ExceptHandler} {l2 : List (Value × Nat × (Addr → Value → Option Addr → TS))}, Clauses Y cs2 l2 → wAll Y.K Wo D l2 cls d σ1 H1 →
        wpAny (model Y.prog Y.w) Y.A (handleBy (.ref a) Y.env cs2) (SP Y pins D) Y.xe { g with heap := g3 } := by
      intro cs2 l2 hk
      induction hk with
      | nil =>
        intro w
        refine wpAny_handleBy_nil ?_
        obtain ⟨_, _, _, oe, vs, T, oT, t2, he, hz, hd, h1, _⟩ := id f3
        unfold PySem.passOn
        refine wpAny_bind (wpAny_field he hd h1 ?_)
        rw [if_neg (show ¬ ((Value.ref T == Value.none) = true) from by simp)]
        have away : wpAny (model Y.prog Y.w) Y.A (setFlight (.ref a) Y.env.frame) (fun _ u4 => wpAny (model Y.prog Y.w) Y.A (throw (.ref a) : Sem Flow) (SP Y pins D) Y.xe u4) Y.xe { g with heap := g3 } := by
          rw [kf]
          refine HandSPX.setFlight_upZ f3 fun g4 q4 u4 => wpAny_throw (tk _ _ ?_)
          exact ⟨a, B, sI, pins, σ1, H1, cls, d, rfl, J, nb, (up.trans u3).trans u4, .inr (.inr (by rw [ks]; exact q4)), na, os, ag, w⟩
        first
          | exact wpAny_bind (wpAny_pure (wpAny_bind away))
          | exact wpAny_bind away
      | @cons x n c i ts b0 suite p p' cs3 l3 hc hi hl su r ih =>
        intro w
        obtain ⟨b, e1, yes, no⟩ := w
        refine wpAny_handleBy_cons (codeAny_handlers_test ?_) (by intro q; cases q)
        have LT : PySem.W.Looks (model Y.prog Y.w) g3 (typeOf (.ref a)) cls := fun A Q E s k q => wpAny_typeOf_ref (k _ _ at3) (by rw [z3.1]; exact q)
        have LM := PySem.W.exm_one (M := model Y.prog Y.w) (I3.kIn) LT e1
        have test : ∀ {Q : Value → Shared → Prop} {E : Value → Shared → Prop}, Q c { g with heap := g3 } → wpAny (model Y.prog Y.w) (Y.A.mark (some (.ref a))) (eval (.Name x p) Y.env) Q E { g with heap := g3 } := fun {Q E} q => by
          obtain ⟨hg, hdb, hm | ⟨hm, hv, hnn⟩⟩ := hc
          · exact ld_glob (X := Y.suite a ((a, o3) :: (Y.pn ++ pins))) T3 hg hm q hdb
          · exact ld_blt (X := Y.suite a ((a, o3) :: (Y.pn ++ pins))) T3 hg hm hv q hnn hdb
        refine test (LM.here ?_)
        cases b with
        | true =>
          refine codeAny_handlers_suite_as ?_
          refine HandSPX.lands_againZ f3 fun g4 f4 u4 => ?_
          have I4 : Inv Y pins σ1 H1 { g with heap := g4 } := J.landed nb f4.1 ((up.trans u3).trans u4) os ag
          obtain ⟨o4, w4, at4, z4, dt4⟩ := f4.there
          have T4 := I4.suite at4 dt4 na nL nF
          refine store_ok (X := Y.suite a ((a, o4) :: (Y.pn ++ pins))) (v := .ref a) T4 kN hi (.inl hl) rfl (fun u5 T5 => ?_) (.inr hl)
          refine wpAny_mono ((su a o4 cls d (Y.pn ++ pins) z4 ⟨_, dt4⟩).run [] u5 _ H1 _ T5 (yes rfl a na)) (fun f u6 q => ?_) (fun _ _ z => False.elim z)
          have fin : ∀ {σ6 : L2.St} {H6 : Hp} {Q : Shared → Prop}, Inv (Y.suite a ((a, o4) :: (Y.pn ++ pins))) [] σ6 H6 u6 → (∀ u7, Inv Y pins (σ6.set i none) H6 u7 → Q u7) →
              wpAny (model Y.prog Y.w) Y.A (do bindName Y.env n .none; unbindBehindTheSuite Y.env n p') (fun _ u7 => Q u7) Y.xe u6 := fun {σ6 H6 Q} T6 hq => gone_ok (T6.unsuite okY) kN hi hl hq
          cases f with
          | next =>
            obtain ⟨_, _, T6, q6⟩ := q
            exact fin T6 fun _ I7 => ⟨_, _, I7, q6⟩
          | brk =>
            obtain ⟨_, _, T6, q6⟩ := q
            exact fin T6 fun _ I7 => ⟨_, _, I7, q6⟩
          | cont =>
            obtain ⟨_, _, T6, q6⟩ := q
            exact fin T6 fun _ I7 => ⟨_, _, I7, q6⟩
          | ret v =>
            obtain ⟨_, _, _, T6, r6, q6⟩ := q
            exact fin T6 fun _ I7 => ⟨_, _, _, I7, r6, q6⟩
        | false =>
          show wpAny _ Y.A (handleBy (.ref a) Y.env cs3) _ _ _
          exact ih (no rfl)
    exact all kh w
  · cases f with
    | next =>
      obtain ⟨_, _, J1, q1⟩ := q
      exact wpAny_execs_nil ⟨_, _, J1.ofTry okY, q1⟩
    | brk =>
      obtain ⟨_, _, J1, q1⟩ := q
      exact ⟨_, _, J1.ofTry okY, q1⟩
    | cont =>
      obtain ⟨_, _, J1, q1⟩ := q
      exact ⟨_, _, J1.ofTry okY, q1⟩
    | ret v =>
      obtain ⟨_, _, _, J1, r1, q1⟩ := q
      exact ⟨_, _, _, J1.ofTry okY, r1, q1⟩
end Bx
/-! ### max of a tuple of ints, lcm: own rules -/
namespace MaxT
open PySem PySem.W PyProof.Rows
section
variable {prog : Program} {w : World} {A : Around} {E : Value → Shared → Prop} {s : Shared}
theorem walkT {l : Addr} {xs : Array (Int × Tok)} {Q : Value → Shared → Prop} (hh : A.handled = none) (ht : s.heap.IsTuple l (intItems xs)) (hne : 0 < xs.size)
    (h : ∀ v g tk, (intItems xs)[argBest (fun i j => decide (numAt xs i > numAt xs j)) (xs.size - 1)]? = some v → (∀ b o, s.heap.get? b = some o → g.get? b = some o) → Q v { s with heap := g, toks := tk }) :
    wpAny (model prog w) A (call (.builtin "max") [.ref l]) Q E s := by
  have ll : l < s.heap.objs.size := by
    obtain ⟨_, e, _⟩ := ht
    exact Heap.lt_size e
  refine call_max_walk (wpAny_pyIter_tuple ht ?_)
  refine ⟨_, _, _, _, _, _, _, rfl, Walks.tuple (A := A.in1) hh _ l (Nat.ne_of_lt ll) (intItems xs), ⟨⟨_, Heap.get?_push_size _ rfl, rfl, rfl⟩, ht.push _⟩, fun c hc => ?_, by simpa [intItems] using hne, CmpOf.ints_gt (numAt xs) (fun _ _ => intItems_at), fun v g tk hP hk => ?_⟩
  · show c < (s.heap.push _).objs.size
    rw [Heap.size_push]
    rcases List.mem_cons.mp hc with rfl | hc
    · exact Nat.lt_succ_self _
    · rcases List.mem_cons.mp hc with rfl | hc
      · exact Nat.lt_succ_of_lt ll
      · cases hc
  · refine h v g tk (by simpa [intItems] using hP) fun b o e => hk b o (fun hm => ?_) (Heap.get?_push_of_some _ e)
    have e1 : b = s.heap.objs.size := List.mem_singleton.mp hm
    rw [e1] at e
    exact absurd (Heap.lt_size e) (Nat.lt_irrefl _)
theorem rawT {l : Addr} {its : List Value} {ns : List Int} {Q : Value → Shared → Prop} (hh : A.handled = none) (hl : IsTup s.heap l its.toArray) (hi : IntsAre its ns) (hne : ns ≠ [])
    (h : ∀ (g : Heap) (tk : Nat) (m : Int) (t' : Tok), (∀ b o, s.heap.get? b = some o → g.get? b = some o) → m ∈ ns → (∀ y ∈ ns, y ≤ m) → Q (.int m t') { s with heap := g, toks := tk }) :
    wpAny (model prog w) A (call (.builtin "max") [.ref l]) Q E s := by
  obtain ⟨xs, e⟩ := hi.allInts.items
  have hn : numsOf (intItems xs).toList = ns := by rw [← e]; exact hi.numsOf
  rw [PySem.nums_intItems] at hn
  subst hn
  rw [e] at hl
  have c : 0 < xs.size := by
    rcases Nat.eq_zero_or_pos xs.size with z | z
    · refine absurd ?_ hne
      have : xs = #[] := Array.eq_empty_of_size_eq_zero z
      rw [this]
      rfl
    · exact z
  refine walkT hh hl c fun v g tk p1 keep => ?_
  obtain ⟨u, rfl⟩ := intItems_at p1
  obtain ⟨a1, a2⟩ := argBest_gt (numAt xs) (xs.size - 1)
  refine h g tk _ u keep ?_ fun y hy => ?_
  · rw [PySem.numAt_eq]
    refine PySem.getD_mem ?_
    rw [List.length_map, Array.length_toList]
    exact Nat.lt_of_le_of_lt a1 (by omega)
  · obtain ⟨j, hj, rfl⟩ := PySem.mem_getD hy
    rw [List.length_map, Array.length_toList] at hj
    rw [← PySem.numAt_eq]
    exact a2 j (by omega)
end
end MaxT
namespace Bx
open PySem PySem.Spec PyProof.Rows L2
def rMaxT (K : PySem.W.Frag) : List V → Hp → VK → Prop := fun xs H Q => ∃ (a : Addr) (ns : List Int), xs = [.ref a] ∧ SqT K H a (ns.map V.int) ∧ ns ≠ [] ∧ ∀ m, m ∈ ns → (∀ y ∈ ns, y ≤ m) → Q (.int m) H
theorem call_maxT {X : Cx} {K : PySem.W.Frag} (h : X.K = K) (hc : X.calm = true) : CallR X (.builtin "max") (rMaxT K) := by
  subst h
  intro pins s σ H xs us Q I r hw
  obtain ⟨a, ns, rfl, hs, hne, q⟩ := hw
  obtain ⟨its, rv, ht, _⟩ := I.tuple hs
  rw [Vals.ref1 r]
  exact MaxT.rawT (I.ok.hd hc) ht rv.ints hne fun g tk m t' hk h1 h2 => ⟨.int m, H, I.kept hk, ⟨_, rfl⟩, q m h1 h2⟩
theorem call_maxK {X : Cx} {K : PySem.W.Frag} (h : X.K = K) (hc : X.calm = true) : CallR X (.builtin "max") (rMax K) := by
  subst h
  exact cr_max hc
def spCheckX (cL : Addr) : Sp := fun vs H Q E => ∃ (p : Addr) (h l : List Int) (n : Int), vs = [.ref p, .int n] ∧ Las H p h l ∧ l ≠ [] ∧ h.length ≤ 1000 ∧ l.length ≤ 1000 ∧
  ((∃ x, (x ∈ h ∨ x ∈ l) ∧ n ≤ x) → ∀ H', Same H H' → E (.ref cL) none H') ∧ ((∀ x, x ∈ h ∨ x ∈ l → x < n) → ∀ H', Same H H' → Q .non H')
end Bx
/-! ### lists of lists, instances made in a try: own rules -/
namespace Bx
open PySem PySem.Spec PyProof.Rows L2
section
variable {X : Cx}
theorem pi_or {tg iter : Expr} {w1 w2 : TI} (h1 : PI X tg iter w1) (h2 : PI X tg iter w2) : PI X tg iter (fun σ H R => w1 σ H R ∨ w2 σ H R) := ⟨fun pins s σ H R I h => by
  rcases h with h | h
  · exact h1.run pins s σ H R I h
  · exact h2.run pins s σ H R I h⟩
theorem passF {P : Program} {w : World} : Passes (L2.CX P w) X (fun _ _ _ => False) := fun _ _ _ _ _ _ _ h => by
  obtain ⟨_, _, _, _, _, _, _, _, _, _, _, _, z⟩ := h
  exact z.elim
/-- a new instance of an own class whose __init__ may raise -/
structure MakX (P : Program) (w : World) (K : PySem.W.Frag) (mg : Str → Option Value) (base : Heap) (k : Nat) (x : Str) (C : Addr) (sp : Sp) : Prop where
  ex : ∃ (f : Addr) (fd : FuncData) (ps : List Str), Mk K C f ∧ FnOk P w K mg base (L2.CX P w) k f fd ps sp ∧ mg x = some (.ref C) ∧ Binds K fd ps []
def tMakX (C : Addr) (sp : Sp) (E : L2.St → XK) (t : TA) : TE := fun σ H Q => t σ H fun vs H1 => ∀ x dx, H1 x = none → H1 dx = none → dx ≠ x → sp (.ref x :: vs) (upd (upd H1 dx (.own x)) x (.ins C dx [])) (fun v H2 => v = .non ∧ Q (.ref x) H2) (E σ)
theorem made_at {k : Nat} {f C : Addr} {fd : FuncData} {ps : List Str} {sp : Sp} {E : XK} {pins : List (Addr × Obj)} {σ : L2.St} {H : Hp} {u : Shared} {Q : VK} {us : List Value} {vs : List V} (M : Mk X.K C f) (F : FnOk X.prog X.w X.K X.mg X.base (L2.CX X.prog X.w) k f fd ps sp) (hr : Room (k + 1) X.A) (hb : Binds X.K fd ps [])
    (hx : PassesAt (L2.CX X.prog X.w) X σ E) (I : Inv X pins σ H u) (r : Vals vs us)
    (h : ∀ x dx, H x = none → H dx = none → dx ≠ x → sp (.ref x :: vs) (upd (upd H dx (.own x)) x (.ins C dx [])) (fun v H2 => v = .non ∧ Q (.ref x) H2) E) :
    wpAny (model X.prog X.w) X.A (call (.ref C) us) (EP X pins σ Q) X.xe u := by
  have q0 := h (u.heap.objs.size + 1) u.heap.objs.size (I.hok.fresh (Nat.le_succ _)) (I.hok.fresh (Nat.le_refl _)) (Nat.ne_of_lt (Nat.lt_succ_self _))
  have J := Inv.made (C := C) I
  have r2 : Vals (V.ref (u.heap.objs.size + 1) :: vs) (Value.ref (u.heap.objs.size + 1) :: us) := .cons rfl r
  have hl : (Value.ref (u.heap.objs.size + 1) :: us ++ []).length = ps.length := by
    have e := r2.length
    rw [F.len _ _ _ _ q0] at e
    rw [List.append_nil]
    exact e.symm
  refine wpAny_call (make_map (f := f) I.kIn M.makes M.init (beq_iff_eq.mp M.fn) (codeAny_mono (F.run _ X.stack _ _ ⟨Value.ref (u.heap.objs.size + 1) :: us, []⟩ (Value.ref (u.heap.objs.size + 1) :: us) _ _ E (hr.make C us [])
    (J.env0.make C us []) (by have q := hb _ (Value.ref (u.heap.objs.size + 1) :: us) J.kIn hl; rw [List.append_nil] at q; exact q) r2 q0) fun r u' hq => ?_))
  cases r with
  | error e => exact hx pins _ _ e u' J hq
  | ok fl =>
    cases fl with
    | ret v =>
      obtain ⟨y, G, J3, ry, ey, qy⟩ := J.after hq
      subst ey
      exact ⟨ry, ⟨V.ref (u.heap.objs.size + 1), G, J3, rfl, qy⟩⟩
    | next => exact False.elim hq
    | brk => exact False.elim hq
    | cont => exact False.elim hq
theorem pe_makeX {k j : Nat} {C : Addr} {x : Str} {sp : Sp} {W : WX} {p pos : Pos} {e : Expr} {es : List Expr} {t : TA} (c : MakX X.prog X.w X.K X.mg X.base k x C sp) (hr : Room j X.A) (hk : k + 1 ≤ j) (tk : Takes X W) (hg : Gl X x) (ha : PA X (e :: es) t)
    (hdb : (x == ("__debug__" : Str)) = false := by decide) (he : starEach (e :: es) X.env = (false, eval e X.env) :: starEach es X.env := by rfl) (hpl : (backTo pos (starEach es X.env)).any (·.1) = false := by rfl) :
    PE X (.Call (.Name x p) (e :: es) [] pos) (tMakX C sp (WE W) t) := by
  obtain ⟨f, fd, ps, M, F, hm, b⟩ := c.ex
  refine ⟨fun pins u σ H Q I hw => ?_⟩
  refine wpAny_Call_Name_kw (ld_glob I hg hm ?_ hdb)
  refine PySem.W.callWith_K (h₀ := X.base) I.ok.mod.kin M.kp (thn (ha.run pos pins u σ H _ I hw) fun us u1 ⟨vs, H1, I1, rv, qv⟩ => ⟨I1.kIn, ?_⟩) he hpl
  exact made_at M F (hr.mono hk) b (passAt tk σ) I1 rv qv
theorem pe_makeN {k j : Nat} {C : Addr} {x : Str} {sp : Sp} {p pos : Pos} {e : Expr} {es : List Expr} {t : TA} (c : MakX X.prog X.w X.K X.mg X.base k x C sp) (hr : Room j X.A) (hk : k + 1 ≤ j) (hg : Gl X x) (ha : PA X (e :: es) t)
    (hdb : (x == ("__debug__" : Str)) = false := by decide) (he : starEach (e :: es) X.env = (false, eval e X.env) :: starEach es X.env := by rfl) (hpl : (backTo pos (starEach es X.env)).any (·.1) = false := by rfl) :
    PE X (.Call (.Name x p) (e :: es) [] pos) (tMakX C sp (fun _ => fun _ _ _ => False) t) := by
  obtain ⟨f, fd, ps, M, F, hm, b⟩ := c.ex
  refine ⟨fun pins u σ H Q I hw => ?_⟩
  refine wpAny_Call_Name_kw (ld_glob I hg hm ?_ hdb)
  refine PySem.W.callWith_K (h₀ := X.base) I.ok.mod.kin M.kp (thn (ha.run pos pins u σ H _ I hw) fun us u1 ⟨vs, H1, I1, rv, qv⟩ => ⟨I1.kIn, ?_⟩) he hpl
  exact made_at M F (hr.mono hk) b (fun pins G v e v' J q => passF pins σ G v e v' J q) I1 rv qv
end
/-! rows of ints -/
def RowsA (mk : List V → HO) (H : Hp) : List Addr → List (List Int) → Prop
  | [], [] => True
  | a :: as, r :: rs => H a = some (mk (r.map V.int)) ∧ RowsA mk H as rs
  | _, _ => False
def RowsQ (H : Hp) : List Addr → List (List Int) → Prop
  | [], [] => True
  | a :: as, r :: rs => SeqI H a r ∧ RowsQ H as rs
  | _, _ => False
theorem RowsA.keep {mk : List V → HO} {H H' : Hp} : ∀ {as : List Addr} {rs : List (List Int)}, (∀ b o, b ∈ as → H b = some o → H' b = some o) → RowsA mk H as rs → RowsA mk H' as rs
  | [], [], _, _ => True.intro
  | a :: as, r :: rs, k, h => ⟨k a _ List.mem_cons_self h.1, RowsA.keep (fun b o hb => k b o (List.mem_cons_of_mem _ hb)) h.2⟩
  | [], _ :: _, _, h => h.elim
  | _ :: _, [], _, h => h.elim
theorem RowsA.same {mk : List V → HO} {H H' : Hp} {as : List Addr} {rs : List (List Int)} (k : Same H H') (h : RowsA mk H as rs) : RowsA mk H' as rs := h.keep fun b o _ e => k b o e
theorem RowsA.len {mk : List V → HO} {H : Hp} : ∀ {as : List Addr} {rs : List (List Int)}, RowsA mk H as rs → as.length = rs.length
  | [], [], _ => rfl
  | a :: as, r :: rs, h => congrArg (· + 1) h.2.len
  | [], _ :: _, h => h.elim
  | _ :: _, [], h => h.elim
theorem RowsA.snoc {mk : List V → HO} {H : Hp} {a : Addr} {r : List Int} (ha : H a = some (mk (r.map V.int))) : ∀ {as : List Addr} {rs : List (List Int)}, RowsA mk H as rs → RowsA mk H (as ++ [a]) (rs ++ [r])
  | [], [], _ => ⟨ha, True.intro⟩
  | b :: as, q :: rs, h => ⟨h.1, h.2.snoc ha⟩
  | [], _ :: _, h => h.elim
  | _ :: _, [], h => h.elim
theorem RowsA.get {mk : List V → HO} {H : Hp} : ∀ {as : List Addr} {rs : List (List Int)} {i : Nat} {a : Addr}, RowsA mk H as rs → as[i]? = some a → ∃ r, rs[i]? = some r ∧ H a = some (mk (r.map V.int))
  | [], _, _, _, _, e => by simp at e
  | b :: as, [], _, _, h, _ => h.elim
  | b :: as, q :: rs, 0, a, h, e => by
    have : b = a := Option.some.inj e
    subst this
    exact ⟨q, rfl, h.1⟩
  | b :: as, q :: rs, i + 1, a, h, e => RowsA.get (i := i) h.2 e
theorem RowsA.q1 {H : Hp} : ∀ {as : List Addr} {rs : List (List Int)}, RowsA .lst H as rs → RowsQ H as rs
  | [], [], _ => True.intro
  | a :: as, r :: rs, h => ⟨.inl h.1, h.2.q1⟩
  | [], _ :: _, h => h.elim
  | _ :: _, [], h => h.elim
theorem RowsA.q2 {H : Hp} : ∀ {as : List Addr} {rs : List (List Int)}, RowsA .tup H as rs → RowsQ H as rs
  | [], [], _ => True.intro
  | a :: as, r :: rs, h => ⟨.inr h.1, h.2.q2⟩
  | [], _ :: _, h => h.elim
  | _ :: _, [], h => h.elim
theorem RowsQ.same {H H' : Hp} (k : Same H H') : ∀ {as : List Addr} {rs : List (List Int)}, RowsQ H as rs → RowsQ H' as rs
  | [], [], _ => True.intro
  | a :: as, r :: rs, h => ⟨h.1.same k, h.2.same k⟩
  | [], _ :: _, h => h.elim
  | _ :: _, [], h => h.elim
theorem RowsQ.len {H : Hp} : ∀ {as : List Addr} {rs : List (List Int)}, RowsQ H as rs → as.length = rs.length
  | [], [], _ => rfl
  | a :: as, r :: rs, h => congrArg (· + 1) h.2.len
  | [], _ :: _, h => h.elim
  | _ :: _, [], h => h.elim
theorem RowsQ.get {H : Hp} : ∀ {as : List Addr} {rs : List (List Int)} {i : Nat} {a : Addr}, RowsQ H as rs → as[i]? = some a → ∃ r, rs[i]? = some r ∧ SeqI H a r
  | [], _, _, _, _, e => by simp at e
  | b :: as, [], _, _, h, _ => h.elim
  | b :: as, q :: rs, 0, a, h, e => by
    have : b = a := Option.some.inj e
    subst this
    exact ⟨q, rfl, h.1⟩
  | b :: as, q :: rs, i + 1, a, h, e => RowsQ.get (i := i) h.2 e
/-- a list or a tuple of any values -/
def SeqV (H : Hp) (a : Addr) (xs : List V) : Prop := H a = some (.lst xs) ∨ H a = some (.tup xs)
theorem SeqV.same {H H' : Hp} {a : Addr} {xs : List V} (k : Same H H') (h : SeqV H a xs) : SeqV H' a xs := by
  rcases h with h | h
  · exact .inl (k _ _ h)
  · exact .inr (k _ _ h)
theorem SeqV.sq {K : PySem.W.Frag} {H : Hp} {a : Addr} {xs : List V} (h : SeqV H a xs) : SqL K H a xs ∨ SqT K H a xs := by
  rcases h with h | h
  · exact .inl (.of h)
  · exact .inr (.of h)
def iSeq (K : PySem.W.Frag) (te : TE) : TI := fun σ H R => iList K te σ H R ∨ iTup K te σ H R
theorem pi_listK {X : Cx} {K : PySem.W.Frag} {tg e : Expr} {te : TE} (h : X.K = K) (he : PE X e te) : PI X tg e (iList K te) := by
  subst h
  exact pi_list he
theorem pi_tupK {X : Cx} {K : PySem.W.Frag} {tg e : Expr} {te : TE} (h : X.K = K) (he : PE X e te) : PI X tg e (iTup K te) := by
  subst h
  exact pi_tup he
theorem pi_seq {X : Cx} {K : PySem.W.Frag} {tg e : Expr} {te : TE} (h : X.K = K) (he : PE X e te) : PI X tg e (iSeq K te) := by
  subst h
  exact pi_or (pi_list he) (pi_tup he)
theorem for_seq {K : PySem.W.Frag} {i : Nat} {a : Addr} {xs : List V} {g : TG} {tb : TS} {D : Ends} {σ : L2.St} {H : Hp} (hv : σ[i]? = some (some (.ref a))) (hq : SeqV H a xs) (Pv : Nat → L2.St → Hp → Prop) (h0 : Pv 0 σ H) (hS : ∀ i σ' H', Pv i σ' H' → Same H H')
    (hs : ∀ i x σ H, xs[i]? = some x → Pv i σ H → g x σ H fun σ2 H2 => tb { D with nx := Pv (i + 1), ct := Pv (i + 1), bk := D.nx } σ2 H2) (hd : ∀ σ H, Pv xs.length σ H → D.nx σ H) : tFor (iSeq K (tVar i)) g tb D σ H := by
  rcases hq with h | h
  · exact .inl ⟨_, hv, a, rfl, ⟨_, .of h⟩, for_list Pv h0 (fun i σ' H' _ p => .of (hS i σ' H' p _ _ h)) hs hd⟩
  · exact .inr ⟨_, hv, a, rfl, ⟨_, .of h⟩, for_tup Pv h0 (fun i σ' H' _ p => .of (hS i σ' H' p _ _ h)) hs hd⟩
/-- a list of lists of ints -/
def LL (H : Hp) (r : Addr) (as : List Addr) (rows : List (List Int)) : Prop := H r = some (.lst (as.map V.ref)) ∧ RowsA .lst H as rows
def Vld (L s : Int) (ps : List Int) (rows : List (List Int)) : Prop := 1 ≤ L ∧ rows ≠ [] ∧ ps.length = rows.length ∧ (0 ≤ s ∧ s < (rows.length : Int)) ∧ (∀ r ∈ rows, (r.length : Int) = L ∧ ∀ x ∈ r, 0 ≤ x ∧ x < (rows.length : Int)) ∧ ∀ p ∈ ps, 0 ≤ p
/-- the fields of a parity automaton, as they are stored -/
def pf (L s : Int) (pt rt : Addr) : List (Str × V) := putF "rows" (.ref rt) (putF "priorities" (.ref pt) (putF "start" (.int s) (putF "letters" (.int L) [])))
theorem putF_len (f : Str) (v : V) : ∀ fs : List (Str × V), (putF f v fs).length ≤ fs.length + 1
  | [] => Nat.le_refl _
  | (g, x) :: r => by
    unfold putF
    by_cases c : g = f
    · rw [if_pos c]
      exact Nat.le_succ _
    · rw [if_neg c]
      exact Nat.succ_le_succ (putF_len f v r)
theorem pf_L (L s : Int) (pt rt : Addr) : (pf L s pt rt).lookup ("letters" : Str) = some (.int L) := by
  unfold pf
  rw [lookup_putF, if_neg (by decide +kernel), lookup_putF, if_neg (by decide +kernel), lookup_putF, if_neg (by decide +kernel), lookup_putF, if_pos rfl]
theorem pf_s (L s : Int) (pt rt : Addr) : (pf L s pt rt).lookup ("start" : Str) = some (.int s) := by
  unfold pf
  rw [lookup_putF, if_neg (by decide +kernel), lookup_putF, if_neg (by decide +kernel), lookup_putF, if_pos rfl]
theorem pf_p (L s : Int) (pt rt : Addr) : (pf L s pt rt).lookup ("priorities" : Str) = some (.ref pt) := by
  unfold pf
  rw [lookup_putF, if_neg (by decide +kernel), lookup_putF, if_pos rfl]
theorem pf_r (L s : Int) (pt rt : Addr) : (pf L s pt rt).lookup ("rows" : Str) = some (.ref rt) := by
  unfold pf
  rw [lookup_putF, if_pos rfl]
/-- a parity automaton at x -/
def ParAt (C : Addr) (H : Hp) (x : Addr) (L s : Int) (ps : List Int) (rows : List (List Int)) : Prop := ∃ (dx pt rt : Addr) (as : List Addr), H x = some (.ins C dx (pf L s pt rt)) ∧ TupI H pt ps ∧ H rt = some (.tup (as.map V.ref)) ∧ RowsA .tup H as rows
theorem ParAt.same {C : Addr} {H H' : Hp} {x : Addr} {L s : Int} {ps : List Int} {rows : List (List Int)} (k : Same H H') (h : ParAt C H x L s ps rows) : ParAt C H' x L s ps rows := by
  obtain ⟨dx, pt, rt, as, e1, e2, e3, e4⟩ := h
  exact ⟨dx, pt, rt, as, k _ _ e1, k _ _ e2, k _ _ e3, e4.same k⟩
/-- what the class has -/
structure ParC (K : PySem.W.Frag) (C : Addr) : Prop where
  cl : Cls K C
  nL : NoAttr K C "letters"
  nS : NoAttr K C "start"
  nP : NoAttr K C "priorities"
  nR : NoAttr K C "rows"
def spCheckS (cI : Addr) : Sp := fun vs H Q E => ∃ (z n : Int), vs = [.int z, .int n] ∧ (¬ (0 ≤ z ∧ z < n) → E (.ref cI) none H) ∧ ((0 ≤ z ∧ z < n) → Q .non H)
def spInitP (C cI : Addr) : Sp := fun vs H Q E => ∃ (x p r dx : Addr) (L s : Int) (ps : List Int) (as : List Addr) (rows : List (List Int)), vs = [.ref x, .int L, .int s, .ref p, .ref r] ∧ H x = some (.ins C dx []) ∧ H p = some (.lst (ps.map V.int)) ∧ SeqV H r (as.map V.ref) ∧ RowsQ H as rows ∧
  rows.length ≤ 1000 ∧ ps.length ≤ 1000 ∧ (∀ q ∈ rows, q.length ≤ 1000) ∧ (¬ Vld L s ps rows → E (.ref cI) none H) ∧ (Vld L s ps rows → ∀ H', Kp x H H' → ParAt C H' x L s ps rows → Q .non H')
end Bx
namespace Bx
open PySem PySem.Spec PyProof.Rows L2
theorem lc_seq {K : PySem.W.Frag} {i : Nat} {a : Addr} {xs : List V} {g : TG} {tt : TT} {te : TE} {vs : List Nat} {σ : L2.St} {H : Hp} {Q : VK} (hv : σ[i]? = some (some (.ref a))) (hq : SeqV H a xs) (Pv : Addr → Nat → Hp → Prop) (h0 : ∀ D, H D = none → Pv D 0 (upd H D (.lst [])))
    (hS : ∀ D j H', H D = none → Pv D j H' → Same H H')
    (hs : ∀ D, H D = none → ∀ i x H', xs[i]? = some x → Pv D i H' → g x (wipe σ vs) H' fun σ2 H2 => wipe σ2 vs = wipe σ vs ∧ tt σ2 H2 fun b H3 => if b = true then te σ2 H3 fun y H4 => ∃ acc, H4 D = some (.lst acc) ∧ acc.length < sizeLine ∧ Pv D (i + 1) (upd H4 D (.lst (acc ++ [y]))) else Pv D (i + 1) H3)
    (hd : ∀ D H', H D = none → Pv D xs.length H' → Q (.ref D) H') : tLc (iSeq K (tVar i)) g tt te vs σ H Q := by
  rcases hq with h | h
  · exact .inl ⟨_, hv, a, rfl, ⟨_, .of h⟩, fun D hD => lc_list (Pv D) (h0 D hD) (fun i H' _ p => .of (hS D i H' hD p _ _ h)) (hs D hD) (fun H' p => hd D H' hD p)⟩
  · exact .inr ⟨_, hv, a, rfl, ⟨_, .of h⟩, fun D hD => lc_tup (Pv D) (h0 D hD) (fun i H' _ p => .of (hS D i H' hD p _ _ h)) (hs D hD) (fun H' p => hd D H' hD p)⟩
theorem rowsUpd {H : Hp} {x : Addr} {o : HO} (hx : ∀ ys, H x ≠ some (.tup ys)) : ∀ {as : List Addr} {rs : List (List Int)}, RowsA .tup H as rs → RowsA .tup (upd H x o) as rs
  | [], [], _ => True.intro
  | a :: as, r :: rs, h => ⟨by
      have h1 := h.1
      rw [upd_ne (fun z => by rw [z] at h1; exact hx _ h1)]
      exact h1, rowsUpd hx h.2⟩
  | [], _ :: _, h => h.elim
  | _ :: _, [], h => h.elim
theorem refs_get {as : List Addr} {i : Nat} {v : V} (h : (as.map V.ref)[i]? = some v) : ∃ a, as[i]? = some a ∧ v = .ref a := by
  rw [List.getElem?_map] at h
  cases e : as[i]? with
  | none => rw [e] at h; cases h
  | some z => rw [e] at h; exact ⟨z, rfl, (Option.some.inj h).symm⟩
theorem ints_get {xs : List Int} {i : Nat} {v : V} (h : (xs.map V.int)[i]? = some v) : ∃ x, xs[i]? = some x ∧ v = .int x := by
  rw [List.getElem?_map] at h
  cases e : xs[i]? with
  | none => rw [e] at h; cases h
  | some z => rw [e] at h; exact ⟨z, rfl, (Option.some.inj h).symm⟩
theorem take_get {α : Type} {xs : List α} {i : Nat} {x : α} (h : xs[i]? = some x) : xs.take (i + 1) = xs.take i ++ [x] := by
  rw [List.take_add_one, h]
  rfl
theorem pl_next {f : Str} {v : V} {fs : List (Str × V)} {n : Nat} (h : fs.length ≤ n) : (putF f v fs).length ≤ n + 1 := Nat.le_trans (putF_len f v fs) (Nat.succ_le_succ h)
theorem pl_lt {fs : List (Str × V)} {n : Nat} (h : fs.length ≤ n) (k : n < 1000) : fs.length < 1000 := Nat.lt_of_le_of_lt h k
theorem pl_0 : ([] : List (Str × V)).length ≤ 0 := Nat.le_refl _
theorem fld_def {Kf : PySem.W.Frag} {ta tv : TE} {f : Str} {D : Ends} {σ : L2.St} {H : Hp} (h : tv σ H fun y H1 => ta σ H1 fun x H2 => ∃ a C dx fs, x = .ref a ∧ H2 a = some (.ins C dx fs) ∧ Cls Kf C ∧ NoAttr Kf C f ∧ fs.length < 1000 ∧ D.nx σ (upd H2 a (.ins C dx (putF f y fs)))) : sFld Kf ta tv f D σ H := h
theorem cb1_def {r : List V → Hp → VK → Prop} {te : TE} {σ : L2.St} {H : Hp} {Q : VK} (h : te σ H fun v H1 => r [v] H1 Q) : tCB r (tCons te tNil) σ H Q := h
theorem rows_some {mk : List V → HO} {H : Hp} : ∀ {as : List Addr} {rs : List (List Int)} {a : Addr}, RowsA mk H as rs → a ∈ as → ∃ o, H a = some o
  | [], _, _, _, h => by simp at h
  | b :: as, [], _, h, _ => h.elim
  | b :: as, r :: rs, a, h, m => by
    rcases List.mem_cons.mp m with z | z
    · rw [z]
      exact ⟨_, h.1⟩
    · exact rows_some h.2 z
theorem LL.same {H H' : Hp} {r : Addr} {as : List Addr} {rows : List (List Int)} (k : Same H H') (h : LL H r as rows) : LL H' r as rows := ⟨k _ _ h.1, h.2.same k⟩
def exS (d : Scope) : Expr → Scope
  | .ListComp _ _ s _ => s
  | .Call _ (.ListComp _ _ s _ :: _) _ _ => s
  | _ => d
def stS (d : Scope) (i : Nat) (b : List Stmt) : Scope := match b[i]? with
  | some (.Return (some e) _) => exS d e
  | some (.Assign _ e _) => exS d e
  | _ => d
/-- ascending numbers below n -/
def Asc (n : Int) (xs : List Int) : Prop := xs.Pairwise (· < ·) ∧ ∀ x ∈ xs, 0 ≤ x ∧ x < n
/-- rows of rows of ints -/
def CubB (mk : List V → HO) (H : Hp) : List Addr → List (List Addr) → List (List (List Int)) → Prop
  | [], [], [] => True
  | a :: as, bs :: bss, r :: rs => (H a = some (mk (bs.map V.ref)) ∧ RowsA mk H bs r) ∧ CubB mk H as bss rs
  | _, _, _ => False
theorem cub_keep {mk : List V → HO} {H H' : Hp} : ∀ {as : List Addr} {bss : List (List Addr)} {c : List (List (List Int))}, (∀ b o, (b ∈ as ∨ ∃ bs ∈ bss, b ∈ bs) → H b = some o → H' b = some o) → CubB mk H as bss c → CubB mk H' as bss c
  | [], [], [], _, _ => True.intro
  | a :: as, bs :: bss, r :: rs, k, h => ⟨⟨k a _ (.inl List.mem_cons_self) h.1.1, h.1.2.keep fun b o hb => k b o (.inr ⟨bs, List.mem_cons_self, hb⟩)⟩, cub_keep (fun b o hb => k b o (by
      rcases hb with z | ⟨q, z, y⟩
      · exact .inl (List.mem_cons_of_mem _ z)
      · exact .inr ⟨q, List.mem_cons_of_mem _ z, y⟩)) h.2⟩
  | [], [], _ :: _, _, h => h.elim
  | [], _ :: _, _, _, h => h.elim
  | _ :: _, [], _, _, h => h.elim
  | _ :: _, _ :: _, [], _, h => h.elim
theorem cub_same {mk : List V → HO} {H H' : Hp} {as : List Addr} {bss : List (List Addr)} {c : List (List (List Int))} (s : Same H H') (h : CubB mk H as bss c) : CubB mk H' as bss c := cub_keep (fun b o _ e => s b o e) h
theorem cub_len {mk : List V → HO} {H : Hp} : ∀ {as : List Addr} {bss : List (List Addr)} {c : List (List (List Int))}, CubB mk H as bss c → as.length = c.length ∧ bss.length = c.length
  | [], [], [], _ => ⟨rfl, rfl⟩
  | a :: as, bs :: bss, r :: rs, h => ⟨congrArg (· + 1) (cub_len h.2).1, congrArg (· + 1) (cub_len h.2).2⟩
  | [], [], _ :: _, h => h.elim
  | [], _ :: _, _, h => h.elim
  | _ :: _, [], _, h => h.elim
  | _ :: _, _ :: _, [], h => h.elim
theorem cub_snoc {mk : List V → HO} {H : Hp} {a : Addr} {bs : List Addr} {r : List (List Int)} (h1 : H a = some (mk (bs.map V.ref))) (h2 : RowsA mk H bs r) : ∀ {as : List Addr} {bss : List (List Addr)} {c : List (List (List Int))}, CubB mk H as bss c → CubB mk H (as ++ [a]) (bss ++ [bs]) (c ++ [r])
  | [], [], [], _ => ⟨⟨h1, h2⟩, True.intro⟩
  | b :: as, cs :: bss, q :: rs, h => ⟨h.1, cub_snoc h1 h2 h.2⟩
  | [], [], _ :: _, h => h.elim
  | [], _ :: _, _, h => h.elim
  | _ :: _, [], _, h => h.elim
  | _ :: _, _ :: _, [], h => h.elim
theorem cub_get {mk : List V → HO} {H : Hp} : ∀ {as : List Addr} {bss : List (List Addr)} {c : List (List (List Int))} {i : Nat} {a : Addr}, CubB mk H as bss c → as[i]? = some a → ∃ bs r, bss[i]? = some bs ∧ c[i]? = some r ∧ H a = some (mk (bs.map V.ref)) ∧ RowsA mk H bs r
  | [], _, _, _, _, _, e => by simp at e
  | a :: as, bs :: bss, r :: rs, 0, b, h, e => by
    have : a = b := Option.some.inj e
    subst this
    exact ⟨bs, r, rfl, rfl, h.1.1, h.1.2⟩
  | a :: as, bs :: bss, r :: rs, i + 1, b, h, e => cub_get (i := i) h.2 e
  | _ :: _, [], _, _, _, h, _ => h.elim
  | _ :: _, _ :: _, [], _, _, h, _ => h.elim
theorem cub_some {mk : List V → HO} {H : Hp} : ∀ {as : List Addr} {bss : List (List Addr)} {c : List (List (List Int))} {b : Addr}, CubB mk H as bss c → (b ∈ as ∨ ∃ bs ∈ bss, b ∈ bs) → ∃ o, H b = some o
  | [], [], _, _, _, h => by
    rcases h with h | ⟨_, h, _⟩
    · simp at h
    · simp at h
  | a :: as, bs :: bss, r :: rs, b, h, m => by
    rcases m with m | ⟨q, m, y⟩
    · rcases List.mem_cons.mp m with z | z
      · rw [z]; exact ⟨_, h.1.1⟩
      · exact cub_some h.2 (.inl z)
    · rcases List.mem_cons.mp m with z | z
      · rw [z] at y; exact rows_some h.1.2 y
      · exact cub_some h.2 (.inr ⟨q, z, y⟩)
  | [], _ :: _, _, _, h, _ => h.elim
  | _ :: _, [], _, _, h, _ => h.elim
  | _ :: _, _ :: _, [], _, h, _ => h.elim
/-- an object that is not one of the rows may change -/
theorem cub_tup {H : Hp} {x : Addr} {o : HO} (hx : ∀ ys, H x ≠ some (.tup ys)) : ∀ {as : List Addr} {bss : List (List Addr)} {c : List (List (List Int))}, CubB .tup H as bss c → CubB .tup (upd H x o) as bss c
  | [], [], [], _ => True.intro
  | a :: as, bs :: bss, r :: rs, h => ⟨⟨by
      have h1 := h.1.1
      rw [upd_ne (fun z => by rw [z] at h1; exact hx _ h1)]
      exact h1, rowsUpd hx h.1.2⟩, cub_tup hx h.2⟩
  | [], [], _ :: _, h => h.elim
  | [], _ :: _, _, h => h.elim
  | _ :: _, [], _, h => h.elim
  | _ :: _, _ :: _, [], h => h.elim
theorem rows_kp {mk : List V → HO} {H H' : Hp} {x : Addr} (hx : ∀ ys, H x ≠ some (mk ys)) (k : Kp x H H') : ∀ {as : List Addr} {rs : List (List Int)}, RowsA mk H as rs → RowsA mk H' as rs
  | [], [], _ => True.intro
  | a :: as, r :: rs, h => ⟨k _ _ (fun z => by have h1 := h.1; rw [z] at h1; exact hx _ h1) h.1, rows_kp hx k h.2⟩
  | [], _ :: _, h => h.elim
  | _ :: _, [], h => h.elim
theorem cub_kp {mk : List V → HO} {H H' : Hp} {x : Addr} (hx : ∀ ys, H x ≠ some (mk ys)) (k : Kp x H H') : ∀ {as : List Addr} {bss : List (List Addr)} {c : List (List (List Int))}, CubB mk H as bss c → CubB mk H' as bss c
  | [], [], [], _ => True.intro
  | a :: as, bs :: bss, r :: rs, h => ⟨⟨k _ _ (fun z => by have h1 := h.1.1; rw [z] at h1; exact hx _ h1) h.1.1, rows_kp hx k h.1.2⟩, cub_kp hx k h.2⟩
  | [], [], _ :: _, h => h.elim
  | [], _ :: _, _, h => h.elim
  | _ :: _, [], _, h => h.elim
  | _ :: _, _ :: _, [], h => h.elim
def bf (L : Int) (it at_ rt : Addr) : List (Str × V) := putF "rows" (.ref rt) (putF "accepting" (.ref at_) (putF "initial" (.ref it) (putF "letters" (.int L) [])))
theorem bf_L (L : Int) (a b c : Addr) : (bf L a b c).lookup ("letters" : Str) = some (.int L) := by
  unfold bf
  rw [lookup_putF, if_neg (by decide +kernel), lookup_putF, if_neg (by decide +kernel), lookup_putF, if_neg (by decide +kernel), lookup_putF, if_pos rfl]
theorem bf_i (L : Int) (a b c : Addr) : (bf L a b c).lookup ("initial" : Str) = some (.ref a) := by
  unfold bf
  rw [lookup_putF, if_neg (by decide +kernel), lookup_putF, if_neg (by decide +kernel), lookup_putF, if_pos rfl]
theorem bf_a (L : Int) (a b c : Addr) : (bf L a b c).lookup ("accepting" : Str) = some (.ref b) := by
  unfold bf
  rw [lookup_putF, if_neg (by decide +kernel), lookup_putF, if_pos rfl]
theorem bf_r (L : Int) (a b c : Addr) : (bf L a b c).lookup ("rows" : Str) = some (.ref c) := by
  unfold bf
  rw [lookup_putF, if_pos rfl]
def AutAt (C : Addr) (H : Hp) (x : Addr) (L : Int) (ini acc : List Int) (c : List (List (List Int))) : Prop := ∃ (dx it at_ rt : Addr) (as : List Addr) (bss : List (List Addr)), H x = some (.ins C dx (bf L it at_ rt)) ∧ TupI H it ini ∧ TupI H at_ acc ∧ H rt = some (.tup (as.map V.ref)) ∧ CubB .tup H as bss c
theorem aut_same {C : Addr} {H H' : Hp} {x : Addr} {L : Int} {ini acc : List Int} {c : List (List (List Int))} (k : Same H H') (h : AutAt C H x L ini acc c) : AutAt C H' x L ini acc c := by
  obtain ⟨dx, it, at_, rt, as, bss, e1, e2, e3, e4, e5⟩ := h
  exact ⟨dx, it, at_, rt, as, bss, k _ _ e1, k _ _ e2, k _ _ e3, k _ _ e4, cub_same k e5⟩
structure AutC (K : PySem.W.Frag) (C : Addr) : Prop where
  cl : Cls K C
  nL : NoAttr K C "letters"
  nI : NoAttr K C "initial"
  nA : NoAttr K C "accepting"
  nR : NoAttr K C "rows"
  c1 : PySem.W.findIn K (.ref C) "__class__" = some (some (.builtin "object.__class__"))
  c2 : PySem.W.specialIn K (.builtin "object.__class__") "__get__" = some (some (.builtin "getset_descriptor.__get__"))
  c3 : PySem.W.takesIn K (.builtin "object.__class__") = some true
  c4 : PySem.W.mroIn K C (.type "object") = some true
  c5 : PySem.W.kitOne K (.ref C) (.ref C) = some true
def VldB (L : Int) (ini acc : List Int) (c : List (List (List Int))) : Prop := 1 ≤ L ∧ c ≠ [] ∧ Asc c.length ini ∧ Asc c.length acc ∧ ∀ r ∈ c, (r.length : Int) = L ∧ ∀ e ∈ r, Asc c.length e
/-- a list of lists of lists -/
def LC (H : Hp) (r : Addr) (as : List Addr) (bss : List (List Addr)) (c : List (List (List Int))) : Prop := H r = some (.lst (as.map V.ref)) ∧ CubB .lst H as bss c
def spChecks (cI : Addr) : Sp := fun vs H Q E => ∃ (a : Addr) (xs : List Int) (n : Int), vs = [.ref a, .int n] ∧ H a = some (.lst (xs.map V.int)) ∧ (¬ Asc n xs → E (.ref cI) none H) ∧ (Asc n xs → Q .non H)
def spInitB (C cI : Addr) : Sp := fun vs H Q E => ∃ (x i a r dx : Addr) (L : Int) (ini acc : List Int) (as : List Addr) (bss : List (List Addr)) (c : List (List (List Int))), vs = [.ref x, .int L, .ref i, .ref a, .ref r] ∧ H x = some (.ins C dx []) ∧ H i = some (.lst (ini.map V.int)) ∧ H a = some (.lst (acc.map V.int)) ∧ LC H r as bss c ∧
  c.length ≤ 1000 ∧ (∀ r ∈ c, r.length ≤ 1000) ∧ (¬ VldB L ini acc c → E (.ref cI) none H) ∧ (VldB L ini acc c → ∀ H', Kp x H H' → AutAt C H' x L ini acc c → Q .non H')
end Bx

/-! ### own rules: a list extended by a tuple; a tuple's slice with a step -/
namespace Tx
open PySem PySem.Spec PyProof.Rows L2
section
variable {prog : Program} {w : World} {A : Around} {E : Value → Shared → Prop} {s : Shared}
set_option maxRecDepth 8000 in
theorem ext_tup (l b : Addr) (xs ys : Array Value) (n m : Nat) (dd : Option Addr) (sl : Array (Option Value)) (h0 : ¬(!xs.isEmpty && Builtin.List.listTooLong (xs.size + ys.size)) = true) (h1 : xs.size ≤ sizeLine) (h2 : xs.size + ys.size ≤ sizeLine + 1) :
    Meets (Builtin.«list.extend» ⟨[.ref l, .ref b], []⟩) (fun _ R s => s.heap.get? l = some { cls := .type "list", data := .seq xs n } ∧ s.heap.get? b = some { cls := .type "tuple", dict := dd, data := .seq ys m, slots := sl } ∧
      R (.ok (.ret Value.none)) { s with heap := s.heap.update l (Obj.mapSeq fun x => x ++ ys), toks := s.toks }) := .of_wp fun prog w A R s h => by
  obtain ⟨hp, g, d, tk, os⟩ := s
  obtain ⟨hl, hb, h⟩ := h
  have q1 := AutoSeq1.idx_int
  have q2 := AutoSeq1.sub_tuple_tuple
  have q3 := AutoSeq1.sub_list_list
  have q4 := AutoSeq1.sub_tuple_list
  have q5 := AutoSeq1.sub_list_tuple
  have hz : (xs ++ ys).size ≤ sizeLine + 1 := by
    rw [Array.size_append]
    exact h2
  wp_walk using (wpAny_updateSeq hl rfl (hz := h1) (_hz' := hz)), AutoSeq1.wpAny_loadPart' hl, AutoSeq1.wpAny_loadPart' hb
  exact ⟨_, rfl, h⟩
end
section
variable {X : Cx} {K : PySem.W.Frag}
def rExtT (K : PySem.W.Frag) : V → List V → Hp → VK → Prop := fun x vs H Q => ∃ l b xs zs, x = .ref l ∧ vs = [.ref b] ∧ H l = some (.lst xs) ∧ SqT K H b zs ∧ xs.length + zs.length ≤ sizeLine ∧ Q .non (upd H l (.lst (xs ++ zs)))
theorem mt_extT (hK : X.K = K) : MtM X "list.extend" (rExtT K) := by
  subst hK
  intro pins s σ H x vs v us Q I rx rv ⟨l, b, xs, zs, ex, ev, hH, hB, hz, q⟩
  subst ex
  subst ev
  cases rx
  obtain ⟨u, rfl, ru⟩ := rv.one
  cases ru
  obtain ⟨z, its, n, r, hl, e⟩ := I.lstM hH
  obtain ⟨its2, r2, ⟨⟨oc, od, ob, os⟩, e2, ec, m, eb⟩, z2⟩ := I.tuple hB
  have hl2 := r2.length
  dsimp only at ec eb
  subst ec
  subst eb
  have hs : its.toArray.size + its2.toArray.size ≤ sizeLine := by
    rw [List.size_toArray, List.size_toArray]
    omega
  refine call_meets F.slot_list_extend ⟨_, e, rfl⟩ F.entry_list_extend (F.args_list_extend_2 _ _) (ext_tup l b its.toArray its2.toArray n m od os (fun c => ?_) (by omega) (by omega)) ⟨e, e2, ?_⟩
  · rw [notLongL hs, Bool.and_false] at c
    cases c
  · refine ⟨.non, _, I.lset (its' := its ++ its2) hH e (by simp) (r.append r2) ?_, rfl, q⟩
    rw [List.length_append]
    omega
/-- the items that a slice with a step picks -/
def pk3 {α : Type} (xs : List α) (lo hi : Option Int) (c : Int) : List α :=
  (List.range (Builtin.Slice.slicePlaces (Builtin.Slice.sliceAdjust lo hi c xs.length).1 (Builtin.Slice.sliceAdjust lo hi c xs.length).2 c)).filterMap fun (k : Nat) => xs[((Builtin.Slice.sliceAdjust lo hi c xs.length).1 + (k : Int) * c).toNat]?
theorem pk3_vals {xs : List V} {us : List Value} (r : Vals xs us) (lo hi : Option Int) (c : Int) : Vals (pk3 xs lo hi c) (pk3 us lo hi c) := by
  unfold pk3
  rw [r.length]
  generalize List.range (Builtin.Slice.slicePlaces (Builtin.Slice.sliceAdjust lo hi c us.length).1 (Builtin.Slice.sliceAdjust lo hi c us.length).2 c) = ks
  generalize (Builtin.Slice.sliceAdjust lo hi c us.length).1 = b
  induction ks with
  | nil => exact .nil
  | cons k ks ih =>
    rw [List.filterMap_cons, List.filterMap_cons]
    cases e : xs[(b + (k : Int) * c).toNat]? with
    | none =>
      have : us[(b + (k : Int) * c).toNat]? = none := by
        rw [List.getElem?_eq_none_iff] at e ⊢
        rw [← r.length]
        exact e
      rw [this]
      exact ih
    | some x =>
      obtain ⟨u, e2, ru⟩ := Vals.get r e
      rw [e2]
      exact .cons ru ih
theorem pk3_len {α : Type} (xs : List α) (lo hi : Option Int) (c : Int) : (pk3 xs lo hi c).length ≤ Builtin.Slice.slicePlaces (Builtin.Slice.sliceAdjust lo hi c xs.length).1 (Builtin.Slice.sliceAdjust lo hi c xs.length).2 c := by
  unfold pk3
  refine Nat.le_trans (List.length_filterMap_le _ _) ?_
  rw [List.length_range]
  exact Nat.le_refl _
end
section
variable {prog : Program} {w : World} {A : Around} {E : Value → Shared → Prop} {s : Shared}
theorem applied3 {sl : Addr} {vl vu vs : Value} {lo hi : Option Int} {c : Int} {n : Nat} {Q : Int × Int × Nat → Shared → Prop} (hs : s.heap.IsSliceOf sl vl vu vs) (pl : IsPart vl lo) (pu : IsPart vu hi) (ps : IsPart vs (some c)) (hc : c ≠ 0)
    (h : Q ((Builtin.Slice.sliceAdjust lo hi c n).1, c, Builtin.Slice.slicePlaces (Builtin.Slice.sliceAdjust lo hi c n).1 (Builtin.Slice.sliceAdjust lo hi c n).2 c) s) :
    wpAny (model prog w) A (Builtin.Slice.sliceApplied (.ref sl) (pure (n : Int))) Q E s := by
  obtain ⟨ob, g1, _, g3⟩ := id hs
  unfold Builtin.Slice.sliceApplied Builtin.Slice.sliceFields
  refine wpAny_bind (wpAny_bind (wpAny_field g1 g3 (x := vl) rfl (wpAny_bind (wpAny_field g1 g3 (x := vu) rfl (wpAny_bind (wpAny_field g1 g3 (x := vs) rfl (wpAny_pure ?_)))))))
  refine wpAny_bind (HT.slicePart_ ps ?_)
  show wpAny _ _ (if (c == 0) = true then _ else _) _ _ s
  rw [if_neg (by simpa using hc)]
  refine wpAny_bind (HT.slicePart_ pl (wpAny_bind (HT.slicePart_ pu (wpAny_bind (wpAny_pure ?_)))))
  show wpAny _ _ (match Builtin.Slice.sliceAdjust lo hi c (n : Int) with | (lo, hi) => pure (lo, c, Builtin.Slice.slicePlaces lo hi c)) _ _ s
  exact wpAny_pure h
theorem item3 {t sl : Addr} {items : List Value} {vl vu vs : Value} {lo hi : Option Int} {c : Int} {Q : Value → Shared → Prop} (ht : IsTup s.heap t items.toArray) (hs : s.heap.IsSliceOf sl vl vu vs) (pl : IsPart vl lo) (pu : IsPart vu hi) (ps : IsPart vs (some c)) (hc : c ≠ 0)
    (h1 : c ≠ 1) (h : Q (.ref s.heap.objs.size) { s with heap := s.heap.push { cls := .type "tuple", data := .seq (pk3 items lo hi c).toArray } }) (hz : (pk3 items lo hi c).length ≤ sizeLine) :
    wpAny (model prog w) A (getItem (.ref t) (.ref sl)) Q E s := by
  have fits : sizeOk (.seq (pk3 items lo hi c).toArray) := by
    show (pk3 items lo hi c).toArray.size ≤ sizeLine
    rw [List.size_toArray]
    exact hz
  have isl : s.TypeIs (.ref sl) "slice" := by
    obtain ⟨ob, g1, g2, _⟩ := id hs
    exact ⟨ob, g1, g2⟩
  unfold getItem
  try with_reducible refine wpAny_holding ?_
  first | refine wpAny_bind (wpAny_pure ?_) | skip
  refine wpAny_bind (wpAny_sequenceKey ht.typeIs (by decide) (wpAny_bind (wpAny_callSpecial?_slot (name := Str.ofString "__getitem__") ht.typeIs slot_tuple_getitem (wpAny_call_entry slot_tuple_getitem ht.typeIs entry_tuple_getitem ?_ (args_tuple_getitem _ _)))))
  show wpAny _ _ (Builtin.Tuple.tupleItemsOf (.ref t) >>= _) _ _ s
  refine wpAny_bind (tupleItemsOf_ ht (wpAny_bind (wpAny_typeOf isl ?_)))
  rw [if_pos (by decide)]
  refine wpAny_bind (applied3 hs pl pu ps hc ?_)
  have no : ¬ (((Builtin.Slice.sliceAdjust lo hi c items.toArray.size).1 == 0 && c == 1 && (Builtin.Slice.slicePlaces (Builtin.Slice.sliceAdjust lo hi c items.toArray.size).1 (Builtin.Slice.sliceAdjust lo hi c items.toArray.size).2 c) == items.toArray.size) = true) := fun q => by
    rw [Bool.and_eq_true, Bool.and_eq_true] at q
    exact h1 (eq_of_beq q.1.2)
  have e : ((List.range (Builtin.Slice.slicePlaces (Builtin.Slice.sliceAdjust lo hi c items.toArray.size).1 (Builtin.Slice.sliceAdjust lo hi c items.toArray.size).2 c)).filterMap fun (k : Nat) => items.toArray[((Builtin.Slice.sliceAdjust lo hi c items.toArray.size).1 + (k : Int) * c).toNat]?) = pk3 items lo hi c := by
    unfold pk3
    rw [List.size_toArray]
    simp only [List.getElem?_toArray]
  show wpAny _ _ (if ((Builtin.Slice.sliceAdjust lo hi c items.toArray.size).1 == 0 && c == 1 && (Builtin.Slice.slicePlaces (Builtin.Slice.sliceAdjust lo hi c items.toArray.size).1 (Builtin.Slice.sliceAdjust lo hi c items.toArray.size).2 c) == items.toArray.size) = true then _ else _) _ _ s
  rw [if_neg no, e]
  first
    | exact wpAny_bind (m := Builtin.Tuple.tupleExact _) (wpAny_newObj_type (wpAny_pure ⟨_, rfl, wpAny_pure h⟩) fits)
    | exact wpAny_bind (m := Builtin.Tuple.tupleExact _) (wpAny_newObj_type (wpAny_bind (wpAny_pure (wpAny_pure ⟨_, rfl, wpAny_pure h⟩))) fits)
    | exact wpAny_bind (wpAny_bind (m := Builtin.Tuple.tupleExact _) (wpAny_newObj_type (wpAny_pure (wpAny_pure ⟨_, rfl, wpAny_pure h⟩)) fits))
    | exact wpAny_bind (wpAny_bind (m := Builtin.Tuple.tupleExact _) (wpAny_newObj_type (wpAny_pure ⟨_, rfl, wpAny_pure h⟩) fits))
end
section
variable {X : Cx} {K : PySem.W.Frag} {e s3 : Expr} {lo hi : Option Expr} {te : TE} {tl th t3 : TO} {p3 pos : Pos}
def tSl3 (K : PySem.W.Frag) (te : TE) (tl th t3 : TO) : TE := fun σ H Q => te σ H fun x H1 => tl σ H1 fun l H2 => th σ H2 fun u H3 => t3 σ H3 fun c H4 => ∃ a xs k, x = .ref a ∧ c = some k ∧ SqT K H4 a xs ∧ k ≠ 0 ∧ k ≠ 1 ∧ (pk3 xs l u k).length ≤ sizeLine ∧
  ∀ p, H4 p = none → Q (.ref p) (upd H4 p (.tup (pk3 xs l u k)))
theorem pe_sl3 (hK : X.K = K) (he : PE X e te) (hl : PO X lo tl) (hu : PO X hi th) (h3 : PO X (some s3) t3) (ho : ∀ a b : Addr, ∃ ops, subscripted (Expr.Slice lo hi (some s3) p3) false (.ref a) (.ref b) = operate ops (getItem (.ref a) (.ref b)) := by exact fun _ _ => ⟨_, rfl⟩) : PE X (.Subscript e (.Slice lo hi (some s3) p3) pos) (tSl3 K te tl th t3) := by
  subst hK
  refine ⟨fun pins s σ H Q I h => Subscript_ (thn (he.run pins s σ H _ I h) fun v s1 ⟨x, H1, I1, r1, q1⟩ => wpAny_Slice (thn (hl.run pins s1 σ H1 _ I1 q1) fun vl s2 ⟨l, H2, I2, pl, q2⟩ => thn (hu.run pins s2 σ H2 _ I2 q2) fun vu s4 ⟨u, H3, I3, pu, q3⟩ =>
    thn (h3.run pins s4 σ H3 _ I3 q3) fun vc s5 ⟨c, H4, I4, pc, q4⟩ => ?_))⟩
  obtain ⟨a, xs, k, ex, ec, hx, k0, k1, hz, q⟩ := q4
  subst ex
  subst ec
  cases r1
  have I5 : Inv X pins σ H4 { s5 with heap := s5.heap.push { cls := .type "slice", data := .fields #[vl, vu, vc] } } := I4.kept (t' := s5.toks) fun b ob q => Heap.get?_push_of_some _ q
  obtain ⟨its, r, ht, _⟩ := I5.tuple hx
  have rv := pk3_vals r l u k
  show wpAny (model X.prog X.w) X.A (subscriptTail e (.Slice lo hi (some s3) p3) (.ref a) (.ref s5.heap.objs.size)) (EP X pins σ Q) X.xe { s5 with heap := s5.heap.push { cls := .type "slice", data := .fields #[vl, vu, vc] } }
  obtain ⟨ops, hops⟩ := ho a s5.heap.objs.size
  refine tail_any (ops := ops) ht.typeIs (slot_tuple_getitem.lookup) ?_ hops
  refine item3 ht (Heap.IsSliceOf.new _ vl vu vc) pl pu pc k0 k1 ?_ (by rw [← rv.length]; exact hz)
  refine ⟨.ref _, _, I5.laid (t' := s5.toks) (o := .tup (pk3 xs l u k)) (fun b ob q => Heap.get?_push_of_some _ q) (Nat.le_refl _) ?_, rfl, q _ (I5.hok.fresh (Nat.le_refl _))⟩
  exact ⟨hz, _, rv, IsTup.new _ _⟩
end
end Tx

/-! ### own rules: set(xs), xs a list of ints; sorted of it -/
namespace Tz
open PySem PySem.Spec PyProof.Rows L2
section
variable {P : Program} {w : World} {A : Around} {E : Value → Shared → Prop} {s : Shared}
/-- the new set, empty -/
abbrev nul (w : World) : Obj := { cls := .type "set", dict := none, data := .set #[] 0 (.fresh 0 0 (!w.params.followText "set-order")) }
/-- what the filling leaves behind -/
def Filled (w : World) (s : Shared) (ns : List Int) (s2 : Shared) : Prop := ∃ h' tk c, s2 = { s with heap := h', toks := tk } ∧ SetR w h' s.heap.objs.size (fun j => decide (j ∈ ns)) c ∧ c ≤ ns.length ∧ ∀ b o, s.heap.get? b = some o → h'.get? b = some o
theorem set_of_list {l : Addr} {items : Array Value} (ns : List Int) {Q : Value → Shared → Prop} (hh : A.handled = none) (hl : s.heap.IsList l items) (hit : IntsAre items.toList ns) (hb : ns.length + 1 < scanBound)
    (h : ∀ s2, Filled w s ns s2 → Q (.ref s.heap.objs.size) s2) : wpAny (model P w) A (call (.type "set") [.ref l]) Q E s := by
  have hisz : items.size = ns.length := by
    have q := IntsAre.length hit
    rwa [Array.length_toList] at q
  have hS : (s.heap.push (nul w)).get? s.heap.objs.size = some (nul w) := Heap.get?_push_size _ rfl
  have hlt : l < s.heap.objs.size := by
    obtain ⟨o, ho, _⟩ := hl
    exact Heap.lt_size ho
  obtain ⟨c, tl, hmro⟩ := F.called_set.mro
  have m1 := F.called_set.made
  have m2 := F.called_set.sub
  refine wpAny_call (codeAny_of_tree ?_)
  show wpAny _ _ (callAny (.type "set") _) _ _ _
  refine wpAny_pure ⟨Code.quiet_builtin _ (by decide +kernel), codeAny_builtin F.entry_type_call ?_⟩
  rw [Around.under_plain (weight_type_call_type "set" [.ref l] []) rfl]
  have m3 := F.called_set.notType
  have m4 := F.called_set.canCreate
  have m5 := F.typeCall_set_1 (.ref l)
  repeat (any_goals (first | assumption | wp_step))
  refine codeAny_mono (code_set_led1 (.ref l) (E := E) (Q₁ := fun obj s1 => obj = .ref s.heap.objs.size ∧ s1 = { s with heap := s.heap.push (nul w) }) ⟨rfl, rfl⟩) fun r s1 hr => ?_
  cases r with
  | error e => exact hr
  | ok fl =>
    cases fl with
    | next => exact hr.elim
    | brk => exact hr.elim
    | cont => exact hr.elim
    | ret obj =>
      obtain ⟨rfl, rfl⟩ := hr
      have hT : Shared.TypeIs { s with heap := s.heap.push (nul w) } (.ref s.heap.objs.size) "set" := ⟨_, hS, rfl⟩
      have m6 := F.called_set.init.lookup
      have m7 := F.called_set.init.bind (.ref s.heap.objs.size)
      repeat (any_goals (first | assumption | wp_step))
      refine codeAny_mono (codeAny_call_builtin (R := wants (fun r s2 => r = .none ∧ Filled w s ns s2) E) F.called_set.init.plain F.entry_set_init (check_set_init_1 hT ?_)) fun r2 s2 hr2 => ?_
      · obtain ⟨ol, hol, hcl, nl, hdl⟩ := hl
        obtain ⟨ocls, odict, odata, oslots⟩ := ol
        simp only at hcl hdl
        subst hcl
        subst hdl
        have hol' := Heap.get?_push_of_some (nul w) hol
        have q1 := F.sub_list_set
        have q2 := F.sub_list_frozenset
        have q3 : (Value.type "list" == Value.type "dict") = false := by decide
        have hl1 : (s.heap.push (nul w)).IsList l items := ⟨_, hol', rfl, nl, rfl⟩
        unfold Builtin.«set.__init__» noKeywords Builtin.Frozenset.updateFrom
        generalize hPI : pyIter = PI
        wp_walk
        subst hPI
        refine wpAny_pyIter_list hl1 ?_
        refine wpAny_bind (wpAny_runValue ?_)
        have hh3 : A.in1.in1.in1.handled = none := by simp [hh]
        have n1 : l ≠ (s.heap.push (nul w)).objs.size := by
          rw [Heap.size_push]
          exact Nat.ne_of_lt (Nat.lt_succ_of_lt hlt)
        have n2 : s.heap.objs.size ∉ [(s.heap.push (nul w)).objs.size, l] := by
          rw [Heap.size_push]
          simp only [List.mem_cons, List.not_mem_nil, or_false, not_or]
          exact ⟨Nat.ne_of_lt (Nat.lt_succ_self _), Nat.ne_of_gt hlt⟩
        have vals : ∀ (i : Nat) (v : Value), items[i]? = some v → ∃ k t, ns[i]? = some k ∧ v = .int k t := fun i v hv => by
          have hi : i < ns.length := by rw [← hisz]; exact (Array.getElem?_eq_some_iff.mp hv).1
          obtain ⟨t, e⟩ := PyProof.Rows.IntsAre.int_at hit i v (by rw [Array.getElem?_toList]; exact hv)
          exact ⟨ns[i], t, List.getElem?_eq_getElem hi, by rw [e, List.getD_eq_getElem?_getD, List.getElem?_eq_getElem hi]; rfl⟩
        refine set_update_ints ((Walks.list hh3 _ l n1 items).toS) s.heap.objs.size n2 ns hisz hb vals (items.size - 0) 0 _ (by omega) (Nat.zero_le _)
          ⟨⟨_, Heap.get?_push_size _ rfl, rfl, rfl⟩, (hl1.push _)⟩ ⟨0, Nat.le_refl 0, setR_new_at (Heap.get?_push_of_some _ hS)⟩ fun s' c' hm hc' hS' => ?_
        obtain ⟨h', g2, d', tk', os'⟩ := s'
        obtain rfl : g2 = s.gens := hm.gens
        obtain rfl : d' = s.drawn := hm.drawn
        obtain rfl : os' = s.os := hm.os
        show wpAny _ _ _ _ _ _
        refine wpAny_pure ?_
        show wpAny _ _ (ret Value.none) _ _ _
        rw [hisz] at hc'
        refine wpAny_pure ⟨rfl, h', tk', c', rfl, hS', hc', fun b o e => ?_⟩
        have b0 : b < s.heap.objs.size := Heap.lt_size e
        refine hm.heap b o ?_ (Heap.get?_push_of_some _ (Heap.get?_push_of_some _ e))
        rw [Heap.size_push]
        simp only [List.mem_cons, List.not_mem_nil, or_false, not_or]
        exact ⟨Nat.ne_of_lt b0, Nat.ne_of_lt (Nat.lt_succ_of_lt b0)⟩
      · cases r2 with
        | error e => exact hr2
        | ok fl2 =>
          cases fl2 with
          | next => exact hr2.elim
          | brk => exact hr2.elim
          | cont => exact hr2.elim
          | ret r =>
            obtain ⟨rfl, hf⟩ := hr2
            have hf2 := hf
            obtain ⟨h', tk, c, rfl, _⟩ := hf2
            repeat (any_goals (first | assumption | wp_step))
            exact h _ hf
end
section
variable {X : Cx} {K : PySem.W.Frag} {w : World}
/-- set(xs), xs a list of ints -/
def rSetLI (K : PySem.W.Frag) (w : World) : List V → Hp → VK → Prop := fun xs H Q => ∃ (l : Addr) (ns : List Int), xs = [V.ref l] ∧ SqL K H l (ns.map V.int) ∧ ns.length + 1 < scanBound ∧
  ∀ p c, H p = none → c ≤ ns.length → Q (.ref p) (upd H p (SetO w p (fun j => decide (j ∈ ns)) c))
theorem cr_setLI (h : X.K = K) (hw : X.w = w) (hc : X.calm = true) : CallR X (.type "set") (rSetLI K w) := by
  subst h
  subst hw
  intro pins s σ H xs us Q I r h
  obtain ⟨l, ns, rfl, hl, hb, q⟩ := h
  rw [Vals.ref1 r]
  obtain ⟨its, rv, pl, hz⟩ := I.list hl
  refine set_of_list (P := X.prog) (w := X.w) ns (I.ok.hd hc) pl.isList rv.ints hb fun s2 hf => ?_
  obtain ⟨h', tk, c, rfl, R, hcl, hk⟩ := hf
  exact ⟨.ref _, upd H s.heap.objs.size (SetO X.w s.heap.objs.size (fun j => decide (j ∈ ns)) c), I.laid (t' := tk) hk (Nat.le_refl _) (setO_new R), rfl, q _ c (I.hok.fresh (Nat.le_refl _)) hcl⟩
theorem cr_sortedSet' (hw : X.w = w) (hc : X.calm = true) : CallR X (.builtin "sorted") (rSortedSet w) := by
  subst hw
  exact cr_sortedSet hc
end
end Tz

namespace Bx
open PySem PySem.Spec PyProof.Rows L2
def mf (I O L : Int) (ot rt : Addr) : List (Str × V) := putF "rows" (.ref rt) (putF "opening" (.ref ot) (putF "lead" (.int L) (putF "outputs" (.int O) (putF "inputs" (.int I) []))))
theorem mf_I (I O L : Int) (a b : Addr) : (mf I O L a b).lookup ("inputs" : Str) = some (.int I) := by
  unfold mf
  rw [lookup_putF, if_neg (by decide +kernel), lookup_putF, if_neg (by decide +kernel), lookup_putF, if_neg (by decide +kernel), lookup_putF, if_neg (by decide +kernel), lookup_putF, if_pos rfl]
theorem mf_O (I O L : Int) (a b : Addr) : (mf I O L a b).lookup ("outputs" : Str) = some (.int O) := by
  unfold mf
  rw [lookup_putF, if_neg (by decide +kernel), lookup_putF, if_neg (by decide +kernel), lookup_putF, if_neg (by decide +kernel), lookup_putF, if_pos rfl]
theorem mf_L (I O L : Int) (a b : Addr) : (mf I O L a b).lookup ("lead" : Str) = some (.int L) := by
  unfold mf
  rw [lookup_putF, if_neg (by decide +kernel), lookup_putF, if_neg (by decide +kernel), lookup_putF, if_pos rfl]
theorem mf_o (I O L : Int) (a b : Addr) : (mf I O L a b).lookup ("opening" : Str) = some (.ref a) := by
  unfold mf
  rw [lookup_putF, if_neg (by decide +kernel), lookup_putF, if_pos rfl]
theorem mf_r (I O L : Int) (a b : Addr) : (mf I O L a b).lookup ("rows" : Str) = some (.ref b) := by
  unfold mf
  rw [lookup_putF, if_pos rfl]
structure MchC (K : PySem.W.Frag) (C : Addr) : Prop where
  cl : Cls K C
  nI : NoAttr K C "inputs"
  nO : NoAttr K C "outputs"
  nL : NoAttr K C "lead"
  no : NoAttr K C "opening"
  nr : NoAttr K C "rows"
/-- rows of pairs -/
structure RP (mk : List V → HO) (H : Hp) (as : List Addr) (c : List (List (Int × Int))) : Prop where
  len : as.length = c.length
  g : ∀ (i : Nat) (a : Addr), as[i]? = some a → ∃ (bs : List Addr) (row : List (Int × Int)), c[i]? = some row ∧ H a = some (mk (bs.map V.ref)) ∧ bs.length = row.length ∧ ∀ (j : Nat) (b : Addr), bs[j]? = some b → ∃ t l, row[j]? = some (t, l) ∧ H b = some (.tup [.int t, .int l])
theorem RP.same {mk : List V → HO} {H H' : Hp} {as : List Addr} {c : List (List (Int × Int))} (s : Same H H') (h : RP mk H as c) : RP mk H' as c := ⟨h.len, fun i a e => by
  obtain ⟨bs, row, h1, h2, h3, h4⟩ := h.g i a e
  exact ⟨bs, row, h1, s _ _ h2, h3, fun j b hb => by obtain ⟨t, l, h5, h6⟩ := h4 j b hb; exact ⟨t, l, h5, s _ _ h6⟩⟩⟩
def LPr (H : Hp) (r : Addr) (as : List Addr) (c : List (List (Int × Int))) : Prop := H r = some (.lst (as.map V.ref)) ∧ RP .lst H as c
theorem LPr.same {H H' : Hp} {r : Addr} {as : List Addr} {c : List (List (Int × Int))} (s : Same H H') (h : LPr H r as c) : LPr H' r as c := ⟨s _ _ h.1, h.2.same s⟩
def MchAt (C : Addr) (H : Hp) (x : Addr) (I O L : Int) (op : List Int) (c : List (List (Int × Int))) : Prop := ∃ (dx ot rt : Addr) (as : List Addr), H x = some (.ins C dx (mf I O L ot rt)) ∧ TupI H ot op ∧ H rt = some (.tup (as.map V.ref)) ∧ RP .tup H as c
theorem mch_same {C : Addr} {H H' : Hp} {x : Addr} {I O L : Int} {op : List Int} {c : List (List (Int × Int))} (s : Same H H') (h : MchAt C H x I O L op c) : MchAt C H' x I O L op c := by
  obtain ⟨dx, ot, rt, as, e1, e2, e3, e4⟩ := h
  exact ⟨dx, ot, rt, as, s _ _ e1, s _ _ e2, s _ _ e3, e4.same s⟩
/-- objects that are no lists stay where only lists change -/
theorem RP.keepT {H H' : Hp} {as : List Addr} {c : List (List (Int × Int))} (k : ∀ b xs, H b = some (.tup xs) → H' b = some (.tup xs)) (h : RP .tup H as c) : RP .tup H' as c := ⟨h.len, fun i a e => by
  obtain ⟨bs, row, h1, h2, h3, h4⟩ := h.g i a e
  exact ⟨bs, row, h1, k _ _ h2, h3, fun j b hb => by obtain ⟨t, l, h5, h6⟩ := h4 j b hb; exact ⟨t, l, h5, k _ _ h6⟩⟩⟩
/-- what holds of a machine -/
structure Vm (I O L : Int) (op : List Int) (c : List (List (Int × Int))) : Prop where
  i1 : 1 ≤ I
  o1 : 1 ≤ O
  l0 : -3 ≤ L
  l1 : L ≤ 2
  op_len : (op.length : Int) = max 0 (-L)
  ne : c ≠ []
  w : ∀ r ∈ c, (r.length : Int) = I
  st : ∀ r ∈ c, ∀ p ∈ r, 0 ≤ p.1 ∧ p.1 < (c.length : Int)
  op_in : ∀ z ∈ op, 0 ≤ z ∧ z < O
  em : ∀ r ∈ c, ∀ p ∈ r, 0 ≤ p.2 ∧ p.2 < O
end Bx
/-! own rule: a tuple times 1 is that tuple -/
namespace Bx
open PySem PySem.Spec PyProof.Rows L2
theorem mul_one (l : Addr) (items : Array Value) (n : Nat) (dd : Option Addr) (sl : Array (Option Value)) (u : Tok) :
    Meets (Builtin.«tuple.__mul__» ⟨[.ref l, .int 1 u], []⟩) (fun _ R s => s.heap.get? l = some { cls := .type "tuple", dict := dd, data := .seq items n, slots := sl } ∧ R (.ok (.ret (.ref l))) s) := .of_wp fun prog w A R s h => by
  obtain ⟨hp, g, d, tk, os⟩ := s
  obtain ⟨hl, h⟩ := h
  have q1 := AutoSeq1.idx_int
  wp_walk using AutoSeq1.wpAny_loadPart' hl
  repeat (first
    | (refine wpAny_ite_true (decide_eq_true (by simp)) ?_; wp_walk using AutoSeq1.wpAny_loadPart' hl)
    | (refine wpAny_ite_false (decide_eq_false (by simp)) ?_; wp_walk using AutoSeq1.wpAny_loadPart' hl))
  exact ⟨_, rfl, h⟩
def rRep1 (K : PySem.W.Frag) : R2 := fun x y H Q => ∃ l k xs, x = .ref l ∧ y = .int k ∧ SqT K H l xs ∧ xs ≠ [] ∧ 1 ≤ k ∧ k ≤ 1000 ∧ xs.length ≤ 1000 ∧ (k = 1 → Q (.ref l) H) ∧ (2 ≤ k → ∀ p, H p = none → Q (.ref p) (upd H p (.tup (List.replicate k.toNat xs).flatten)))
theorem op_rep1K {X : Cx} {K : PySem.W.Frag} (h : X.K = K) : OpR X (binaryOp .Mult) (rRep1 K) := by
  subst h
  intro pins s σ H x y v u Q I rx ry h
  obtain ⟨l, k, xs, ex, ey, hT, hne, h1, h2, hz, q1, q2⟩ := h
  by_cases c : k = 1
  · subst c
    subst ex
    subst ey
    cases rx
    obtain ⟨t, rfl⟩ := ry
    obtain ⟨its, r, ⟨⟨cls, dd, data, sl⟩, ho, hc, n, hd⟩, _⟩ := I.tuple hT
    simp only at hc hd
    subst hc hd
    refine wpAny_binaryOp_repeat_ref (T := "tuple") (U := "int") (by decide) ⟨_, ho, rfl⟩ (fun s' => typeIs_int s' 1 t) noFill_tuple_mul F.fills_int_mul F.slot_int_rmul repeat_tuple F.slot_int_index.lookup
      (call_meets F.slot_int_rmul (typeIs_int s 1 t) F.entry_int_rmul (F.args_int_rmul_2 _ _) (int_rmul_tuple 1 t l its.toArray n dd sl)
        ⟨ho, rfl, ⟨_, ho, rfl⟩, call_meets F.slot_tuple_mul ⟨_, ho, rfl⟩ F.entry_tuple_mul (F.args_tuple_mul_2 _ _) (mul_one l its.toArray n dd sl t) ⟨ho, ?_⟩⟩)
    exact ⟨.ref l, H, I, rfl, q1 rfl⟩
  · exact op_repT pins s σ H x y v u Q I rx ry ⟨l, k, xs, ex, ey, hT, hne, by omega, h2, hz, q2 (by omega)⟩
end Bx
namespace Bx
open PySem PySem.Spec PyProof.Rows L2
def gf (ot pt rt : Addr) : List (Str × V) := putF "moves" (.ref rt) (putF "priorities" (.ref pt) (putF "owners" (.ref ot) []))
theorem gf_o (a b c : Addr) : (gf a b c).lookup ("owners" : Str) = some (.ref a) := by
  unfold gf
  rw [lookup_putF, if_neg (by decide +kernel), lookup_putF, if_neg (by decide +kernel), lookup_putF, if_pos rfl]
theorem gf_p (a b c : Addr) : (gf a b c).lookup ("priorities" : Str) = some (.ref b) := by
  unfold gf
  rw [lookup_putF, if_neg (by decide +kernel), lookup_putF, if_pos rfl]
theorem gf_m (a b c : Addr) : (gf a b c).lookup ("moves" : Str) = some (.ref c) := by
  unfold gf
  rw [lookup_putF, if_pos rfl]
structure GmeC (K : PySem.W.Frag) (C : Addr) : Prop where
  cl : Cls K C
  no : NoAttr K C "owners"
  np : NoAttr K C "priorities"
  nm : NoAttr K C "moves"
def GmeAt (C : Addr) (H : Hp) (x : Addr) (ow ps : List Int) (c : List (List Int)) : Prop := ∃ (dx ot pt rt : Addr) (as : List Addr), H x = some (.ins C dx (gf ot pt rt)) ∧ TupI H ot ow ∧ TupI H pt ps ∧ H rt = some (.tup (as.map V.ref)) ∧ RowsA .tup H as c
/-- what holds of a game -/
structure Vg (ow ps : List Int) (c : List (List Int)) : Prop where
  ne : c ≠ []
  lo : ow.length = c.length
  lp : ps.length = c.length
  ow1 : ∀ z ∈ ow, 0 ≤ z ∧ z ≤ 1
  pr : ∀ z ∈ ps, 0 ≤ z
  mv : ∀ r ∈ c, r ≠ [] ∧ Asc (c.length : Int) r
end Bx
/-! own rule: enumerate of a tuple -/
namespace Bx
open PySem PySem.Spec PyProof.Rows L2
open AutoSeq1 (wpAny_loadPart')
theorem meets_enumerate_newT (l : Addr) (items : Array Value) (n : Nat) (dct : Option Addr) (sl : Array (Option Value)) :
    Meets (Builtin.«enumerate.__new__» ⟨[.type "enumerate", .ref l], []⟩) (fun _ R s => s.heap.get? l = some { cls := .type "tuple", dict := dct, data := .seq items n, slots := sl } ∧
      R (.ok (.ret (.ref (s.heap.push { cls := .type "tuple_iterator", data := .fields #[.ref l, .int 0 0] }).objs.size)))
        { s with heap := (s.heap.push { cls := .type "tuple_iterator", data := .fields #[.ref l, .int 0 0] }).push { cls := .type "enumerate", data := .fields #[.none, .bool false, .ref s.heap.objs.size, rawInt 0, .none, .none] } }) :=
  .of_wp fun prog w A R s h => by
    obtain ⟨hp, g, d, tk, os⟩ := s; obtain ⟨hl, h⟩ := h
    have hsub := sub_enumerate
    have hL : Heap.IsTuple (Shared.heap ⟨hp, g, d, tk, os⟩) l items := ⟨_, hl, rfl, n, rfl⟩
    wp_walk using wpAny_loadPart' hl
    refine wpAny_stack_any fun st => wpAny_pure ?_
    split
    · rename_i c _ _ _ _ _
      cases (c == Value.type "enumerate")
      · wp_walk using wpAny_loadPart' hl, wpAny_pyIter_tuple hL
        exact ⟨_, rfl, h⟩
      · wp_walk using wpAny_loadPart' hl, wpAny_pyIter_tuple hL
        exact ⟨_, rfl, h⟩
    · wp_walk using wpAny_loadPart' hl, wpAny_pyIter_tuple hL
      exact ⟨_, rfl, h⟩
theorem call_enumerate_tuple {prog : Program} {w : World} {A : Around} {E : Value → Shared → Prop} {s : Shared} {l : Addr} {items : Array Value} {Q : Value → Shared → Prop} (hL : s.heap.IsTuple l items)
    (h : ∀ h', IsEnum h' (s.heap.objs.size + 1) s.heap.objs.size 0 .none → h'.IsTupleIter s.heap.objs.size l 0 → h'.objs.size = s.heap.objs.size + 2 →
      (∀ b o, s.heap.get? b = some o → h'.get? b = some o) → Q (.ref (s.heap.objs.size + 1)) { s with heap := h' }) :
    wpAny (model prog w) A (call (.type "enumerate") [.ref l]) Q E s := by
  obtain ⟨⟨c, dct, dt, sl⟩, hl, hc, n, hd⟩ := hL
  replace hc : c = .type "tuple" := hc
  replace hd : dt = .seq items n := hd
  subst hc hd
  refine callType_new F.called_enumerate (by decide) (F.typeCall_enumerate_1 _) (F.newCall_enumerate_1 _) (fun obj => F.args_object_init_2 obj _) F.entry_enumerate_new
    (meets_enumerate_newT l items n dct sl) ⟨hl, ?_⟩
  have hz : (s.heap.push { cls := .type "tuple_iterator", data := .fields #[.ref l, .int 0 0] }).objs.size = s.heap.objs.size + 1 := Heap.size_push ..
  show _ ∧ _
  rw [hz]
  have he : IsEnum ((s.heap.push { cls := .type "tuple_iterator", data := .fields #[.ref l, .int 0 0] }).push
      { cls := .type "enumerate", data := .fields #[.none, .bool false, .ref s.heap.objs.size, rawInt 0, .none, .none] }) (s.heap.objs.size + 1) s.heap.objs.size 0 .none := by
    have := Heap.get?_push_size (s.heap.push { cls := .type "tuple_iterator", data := .fields #[.ref l, .int 0 0] })
      (o := { cls := .type "enumerate", data := .fields #[.none, .bool false, .ref s.heap.objs.size, rawInt 0, .none, .none] }) rfl
    rw [hz] at this; exact this
  refine ⟨⟨_, he, rfl⟩, h _ he ⟨_, Heap.get?_push_of_some _ (Heap.get?_push_size _ rfl), rfl, rfl⟩ (by rw [Heap.size_push, hz]) fun b o x => Heap.get?_push_of_some _ (Heap.get?_push_of_some _ x)⟩
/-- the tuple at a, each item in a new pair -/
def IteT (K : PySem.W.Frag) (a : Addr) : It :=
  ⟨fun i H => ∃ (xs : List V) (x : V), SqT K H a xs ∧ xs[i]? = some x, fun i H v H' => ∃ T x, v = .ref T ∧ H T = none ∧ H' = upd H T (.tup [.int (i : Nat), x]) ∧ ∀ xs, SqT K H a xs → xs[i]? = some x, fun i H => ∃ xs : List V, SqT K H a xs ∧ xs.length ≤ i⟩
theorem turn_enumT {P : Program} {w : World} {K : PySem.W.Frag} {elts : List Expr} {kk : Nat} {tpos : Pos} (a e it : Addr) :
    Turn P w K (.Tuple elts kk tpos) (IteT K a) [e, it] e (fun i h => (∃ old, IsEnum h e it ((i : Nat) : Int) old) ∧ h.IsTupleIter it a i ∧ e ≠ it) where
  mem := by simp
  obj := fun i h st b hb => by
    obtain ⟨⟨old, he⟩, ⟨o, ho, hc, hd⟩, _⟩ := st
    have e' : b = e ∨ b = it := by simpa using hb
    rcases e' with z | z
    · rw [z]; exact ⟨_, he, fun v q => nomatch q⟩
    · rw [z]; exact ⟨o, ho, fun v q => by rw [hd] at q; cases q⟩
  keep := fun i h h' st k => let ⟨⟨old, he⟩, hi, hne⟩ := st; ⟨⟨old, k e (by simp) _ he⟩, hi.at fun o q => k it (by simp) o q, hne⟩
  item := by
    intro X hP hw hK hc i pins s σ H E I hf st hg
    subst hP hw hK
    obtain ⟨⟨old, he⟩, hit, hne⟩ := st
    obtain ⟨xs, x, hq, hx⟩ := hg
    obtain ⟨its, rv, p, hz⟩ := I.tuple hq
    obtain ⟨u, hu, ru⟩ := rv.get hx
    have hel : e < s.heap.objs.size := Heap.lt_size he
    have hil : it < s.heap.objs.size := by obtain ⟨_, q, _⟩ := hit; exact Heap.lt_size q
    obtain ⟨oa, hoa, hca, na, hda⟩ := id p
    have hai : a ≠ it := fun z => by
      obtain ⟨o, ho, hc', hd'⟩ := hit
      rw [← z, hoa] at ho
      cases ho
      rw [hda] at hd'
      cases hd'
    have hae : e ≠ a := fun z => by
      have he' := he
      unfold IsEnum at he'
      rw [z, hoa] at he'
      cases he'
      cases hda
    have hii : i < its.toArray.size := by
      rcases Nat.lt_or_ge i its.toArray.size with y | y
      · exact y
      · rw [List.getElem?_eq_none (by simpa using y)] at hu
        cases hu
    have hh1 : X.A.in1.handled = none := by simp [I.ok.hd hc]
    refine wpAny_pyNext_enum_itemD (Draws.tuple (prog := X.prog) (w := X.w) hh1 it a hai its.toArray) he ⟨hit, p⟩ hii hne (by simp only [List.mem_cons, List.not_mem_nil, or_false, not_or]; exact ⟨hne, hae⟩) fun v h' tk hv ho hit' hT hsz hk => ?_
    have ev : v = u := by
      have : its[i]? = some v := by simpa using hv
      rw [hu] at this
      exact (Option.some.inj this).symm
    subst ev
    refine ⟨_, rfl, wpAny_letOwnedTupleGo_enum (s := { s with heap := h', toks := tk + 1 }) ho fun h'' he' sb => ?_⟩
    have hT2 : h''.get? s.heap.objs.size = some { cls := .type "tuple", data := .seq #[.int i tk, v] } := (sb.2 _ (Nat.ne_of_gt hel)).trans hT
    have new : ObjOk X.prog X.w (upd H s.heap.objs.size (.tup [.int (i : Nat), x])) h'' s.heap.objs.size (.tup [.int (i : Nat), x]) :=
      ⟨by show 2 ≤ sizeLine; decide, [.int i tk, v], .cons ⟨_, rfl⟩ (.cons ru .nil), ⟨_, hT2, rfl, _, rfl⟩⟩
    have I1 : Inv X pins σ (upd H s.heap.objs.size (.tup [.int (i : Nat), x])) { s with heap := h'', toks := tk + 1 } :=
      I.turnedNew (ch := [e, it]) (fun b ob hb q => (sb.2 b (fun z => hb (by simp [z]))).trans (hk b ob (fun z => hb (by simp [z])) (fun z => hb (by simp [z])) q)) hf (Nat.le_refl _) new
    refine ⟨.ref s.heap.objs.size, _, I1, rfl, ⟨_, x, rfl, I.hok.fresh (Nat.le_refl _), rfl, fun ys hy => by rw [I.tuple_inj hy hq]; exact hx⟩, ⟨⟨v, ?_⟩, hit'.1.at fun o q => (sb.2 it (Ne.symm hne)).trans q, hne⟩, fun b hb => ?_⟩
    · have e1 : ((i + 1 : Nat) : Int) = (i : Int) + 1 := by omega
      rw [e1]; exact he'
    · have hb' : b < s.heap.objs.size := by
        have e' : b = e ∨ b = it := by simpa using hb
        rcases e' with z | z
        · rw [z]; exact hel
        · rw [z]; exact hil
      rw [upd_ne (Nat.ne_of_lt hb')]
      exact (hf b hb).1
  done := by
    intro X hP hw hK hc i pins s σ H E I hf st hg
    subst hP hw hK
    obtain ⟨⟨old, he⟩, hit, hne⟩ := st
    obtain ⟨xs, hq, hx⟩ := hg
    obtain ⟨its, rv, p, hz⟩ := I.tuple hq
    obtain ⟨f0, f1, f2, f3, f4, f5⟩ := hf it (by simp)
    have hl := rv.length
    have hT : s.TypeIs (.ref e) "enumerate" := ⟨_, he, rfl⟩
    unfold pyNext
    refine wpAny_bind (wpAny_attempt (wpAny_callSpecial?_slot (name := Str.ofString "__next__") hT F.slot_enumerate_next
      (wpAny_call_entry F.slot_enumerate_next hT F.entry_enumerate_next ?_ (F.args_enumerate_next_1 _))))
    show wpAny _ _ (field (.ref e) 2 >>= _) _ _ _
    refine wpAny_bind (wpAny_field he rfl (x := .ref it) rfl ?_)
    refine wpAny_bind (wpAny_nextOf_tuple_end (I.ok.hd hc) hit p (by simp; omega) fun h' x he' hx' => ?_)
    obtain ⟨o, ho, hc⟩ := hx'
    refine wpAny_bind (wpAny_isInstance (T := "StopIteration") (b := true) ⟨o, ho, hc⟩ isSubtype_stop ?_)
    exact wpAny_pure ⟨rfl, I.turned (t' := s.toks) (fun b o hb q => he' b o hb q) f0 f1 f3 f4 f5⟩
  self := fun A i s Q E st h => let ⟨⟨_, he⟩, _⟩ := st; wpAny_pyIter_enum he h
def iEnumT (K : PySem.W.Frag) (ta : TA) : TI := fun σ H R => ta σ H fun vs H1 => ∃ a xs, vs = [.ref a] ∧ SqT K H1 a xs ∧ R (IteT K a) H1
theorem pi_enumT {X : Cx} {e : Expr} {ta : TA} {p pos tpos : Pos} {elts : List Expr} {kk : Nat} (hg : Gl X "enumerate") (hm : X.mg "enumerate" = none) (ha : PA X [e] ta) (hs : starEach [e] X.env = [(false, eval e X.env)] := by rfl) :
    PI X (.Tuple elts kk tpos) (.Call (.Name "enumerate" p) [e] [] pos) (iEnumT X.K ta) := by
  refine ⟨fun pins s σ H R I h => ?_⟩
  refine Call_ (ld_blt I hg hm boot_enumerate (PyProof.Rows.callWith_type1 (thn (ha.run pos pins s σ H _ I h) fun us s1 ⟨vs, H1, I1, r1, q1⟩ => ?_) hs rfl))
  obtain ⟨a, xs, ex, hq, q⟩ := q1
  subst ex
  cases r1 with
  | cons r rr =>
    cases rr
    cases r
    obtain ⟨its, rv, p', hz⟩ := I1.tuple hq
    refine call_enumerate_tuple p' fun h' he hit hsz hk => wpAny_pyIter_enum he ?_
    have I2 : Inv X pins σ H1 { s1 with heap := h' } := I1.kept (t' := s1.toks) hk
    refine ⟨s1.heap.objs.size + 1, [s1.heap.objs.size + 1, s1.heap.objs.size], _, _, H1, rfl, I2, turn_enumT a (s1.heap.objs.size + 1) s1.heap.objs.size, ⟨⟨.none, he⟩, hit, Nat.succ_ne_self _⟩, fun b hb => ?_, q⟩
    have e' : b = s1.heap.objs.size + 1 ∨ b = s1.heap.objs.size := by simpa using hb
    have hle : s1.heap.objs.size ≤ b := by
      rcases e' with z | z
      · rw [z]; exact Nat.le_add_right _ _
      · rw [z]; exact Nat.le_refl _
    exact I1.fpOk hle (I1.hok.fresh hle)
theorem walk_enumT {K : PySem.W.Frag} {a : Addr} {xs : List V} : Walk (IteT K a) xs.length (fun H => SqT K H a xs) (YPair (fun i => some (.int (i : Nat))) (fun i => xs[i]?)) := by
  refine ⟨fun i _ hi q => ⟨xs, xs[i], q, by simp [hi]⟩, fun _ q => ⟨xs, q, Nat.le_refl _⟩, fun i H v H' _ q y => ?_⟩
  obtain ⟨T, x, h1, h2, h3, h4⟩ := y
  exact ⟨T, .int (i : Nat), x, h1, h2, h3, rfl, h4 xs q⟩
end Bx
namespace Bx
open PySem PySem.Spec PyProof.Rows L2
/-- xs[i] read by an augmented assignment -/
def rGetL (K : PySem.W.Frag) : V → V → Hp → VK → Prop := fun x y H Q => ∃ p xs i v, x = .ref p ∧ y = .int i ∧ SqL K H p xs ∧ 0 ≤ i ∧ atI xs i = some v ∧ Q v H
theorem pget_of {X : Cx} {K : PySem.W.Frag} (h : X.K = K) : PGet X (rGetL K) := by
  subst h
  intro pins s σ H o i' ov iv Q I rx ry h
  obtain ⟨p, xs, i, z, rfl, rfl, hq, h0, he, q⟩ := h
  cases rx
  obtain ⟨t, rfl⟩ := ry
  obtain ⟨its, r, pl, hz⟩ := I.list hq
  obtain ⟨j, h1, h2, h3, h4, h5⟩ := atI_get he
  obtain ⟨w, ew, rw'⟩ := r.get h2
  have hl := r.length
  have hn := line63
  have fin : EP X pins σ Q w s := ⟨z, H, I, rw', q⟩
  have hj : i.toNat = j := by
    rw [seqIndex_of h0 h5] at h1
    exact Option.some.inj h1
  exact wpAny_getItem_list pl.isList h0 (by omega) (by rw [hj]; simpa using ew) fin
end Bx
local macro_rules | `(tactic| walk_at "bx") => `(tactic| repeat (first
  | refine ⟨_, rfl, ?_⟩
  | refine ⟨_, _, rfl, rfl, ?_⟩
  | refine ⟨rfl, ?_⟩
  | refine Or.inl ⟨_, rfl, ?_⟩
  | refine ⟨Or.inr ⟨by decide, by decide⟩, ?_⟩
  | refine ⟨Or.inl ⟨by decide, by decide⟩, ?_⟩
  | refine ⟨(show (0 : Int) < _ by decide), ?_⟩
  | refine ⟨⟨by decide, by decide⟩, ?_⟩
  | refine ⟨_, _, rfl, Or.inl (L2.SqL.of (by assumption)), ?_⟩
  | refine ⟨_, _, rfl, Or.inr (L2.SqT.of (by assumption)), ?_⟩
  | refine ⟨Or.inl ⟨rfl, _, L2.SqL.of (by assumption)⟩, ?_⟩
  | refine ⟨_, _, _, rfl, rfl, (by assumption), ?_⟩
  | refine ⟨_, _, rfl, rfl, (by assumption), ?_⟩
  | refine ⟨_, _, _, _, rfl, rfl, L2.SqT.of (by assumption), (by assumption), ?_⟩
  | refine ⟨_, _, _, _, rfl, rfl, L2.SqL.of (by assumption), (by assumption), ?_⟩
  | refine ⟨_, _, rfl, Bx.SeqI.sq (by assumption), ?_⟩
  | refine And.intro (by assumption) ?_))
local macro_rules | `(tactic| walk_at "nl") => `(tactic| ((try unfold L2.tNil); (try unfold L2.tNoPart)))

namespace My
open PySem PySem.Spec PyProof.Rows L2 Bx Tx Tz
def topS (i : Nat) : Stmt := PySem.Challenge.pw_reactivesynth_k34_game_and_distances.main.body.getD i (.Pass ⟨0, 0, 0, 0⟩)
abbrev s_reversed_graph : Stmt := topS 5
abbrev N_reversed_graph : List Str := ["graph", "turned", "node", "row", "target", "_"]
theorem sc_reversed_graph : FnScope N_reversed_graph ["graph"] (defScope s_reversed_graph) := ⟨rfl, rfl, rfl, by decide +kernel, rfl, by decide +kernel, by decide +kernel⟩
abbrev s_check_moves : Stmt := topS 8
abbrev N_check_moves : List Str := ["targets", "count", "before", "target"]
theorem sc_check_moves : FnScope N_check_moves ["targets", "count"] (defScope s_check_moves) := ⟨rfl, rfl, rfl, by decide +kernel, rfl, by decide +kernel, by decide +kernel⟩
abbrev s_check_position : Stmt := topS 9
abbrev N_check_position : List Str := ["game", "position"]
theorem sc_check_position : FnScope N_check_position ["game", "position"] (defScope s_check_position) := ⟨rfl, rfl, rfl, by decide +kernel, rfl, by decide +kernel, by decide +kernel⟩
abbrev s_distances : Stmt := topS 10
abbrev N_distances : List Str := ["game", "player", "targets", "target", "found", "sources", "left", "waiting", "at", "position", "source", "moves"]
theorem sc_distances : FnScope N_distances ["game", "player", "targets"] (defScope s_distances) := ⟨rfl, rfl, rfl, by decide +kernel, rfl, by decide +kernel, by decide +kernel⟩
abbrev s_law_draws : Stmt := topS 12
abbrev N_law_draws : List Str := ["script", "count", "cells", "found", "mixed", "k", "j", "cell", "again"]
theorem sc_law_draws : FnScope N_law_draws ["script", "count"] (defScope s_law_draws) := ⟨rfl, rfl, rfl, by decide +kernel, rfl, by decide +kernel, by decide +kernel⟩
abbrev s_law_take : Stmt := topS 13
abbrev N_law_take : List Str := ["draws", "limit"]
theorem sc_law_take : FnScope N_law_take ["draws", "limit"] (defScope s_law_take) := ⟨rfl, rfl, rfl, by decide +kernel, rfl, by decide +kernel, by decide +kernel⟩
abbrev s_law_is_integer : Stmt := topS 14
abbrev N_law_is_integer : List Str := ["actual"]
theorem sc_law_is_integer : FnScope N_law_is_integer ["actual"] (defScope s_law_is_integer) := ⟨rfl, rfl, rfl, by decide +kernel, rfl, by decide +kernel, by decide +kernel⟩
abbrev s_law_integers : Stmt := topS 15
abbrev N_law_integers : List Str := ["actual", "low", "high", "item"]
theorem sc_law_integers : FnScope N_law_integers ["actual", "low", "high"] (defScope s_law_integers) := ⟨rfl, rfl, rfl, by decide +kernel, rfl, by decide +kernel, by decide +kernel⟩
abbrev s_law_ascending : Stmt := topS 16
abbrev N_law_ascending : List Str := ["draws", "limit", "share", "k"]
theorem sc_law_ascending : FnScope N_law_ascending ["draws", "limit", "share"] (defScope s_law_ascending) := ⟨rfl, rfl, rfl, by decide +kernel, rfl, by decide +kernel, by decide +kernel⟩
abbrev s_law_flat : Stmt := topS 17
abbrev N_law_flat : List Str := ["rows", "row"]
theorem sc_law_flat : FnScope N_law_flat ["rows"] (defScope s_law_flat) := ⟨rfl, rfl, rfl, by decide +kernel, rfl, by decide +kernel, by decide +kernel⟩
abbrev s_law_game : Stmt := topS 18
abbrev N_law_game : List Str := ["draws", "most", "count", "top", "owners", "priorities", "share", "moves", "k", "row"]
theorem sc_law_game : FnScope N_law_game ["draws", "most"] (defScope s_law_game) := ⟨rfl, rfl, rfl, by decide +kernel, rfl, by decide +kernel, by decide +kernel⟩
abbrev s_law_outcome : Stmt := topS 19
abbrev N_law_outcome : List Str := ["owners", "priorities", "moves"]
theorem sc_law_outcome : FnScope N_law_outcome ["owners", "priorities", "moves"] (defScope s_law_outcome) := ⟨rfl, rfl, rfl, by decide +kernel, rfl, by decide +kernel, by decide +kernel⟩
abbrev s_law_distances : Stmt := topS 20
abbrev N_law_distances : List Str := ["game", "player", "targets"]
theorem sc_law_distances : FnScope N_law_distances ["game", "player", "targets"] (defScope s_law_distances) := ⟨rfl, rfl, rfl, by decide +kernel, rfl, by decide +kernel, by decide +kernel⟩
abbrev s_law_expected : Stmt := topS 21
abbrev N_law_expected : List Str := ["owners", "moves", "player", "targets", "found", "turn", "known", "k", "near", "distance", "target"]
theorem sc_law_expected : FnScope N_law_expected ["owners", "moves", "player", "targets"] (defScope s_law_expected) := ⟨rfl, rfl, rfl, by decide +kernel, rfl, by decide +kernel, by decide +kernel⟩
abbrev s_law_spoil : Stmt := topS 22
abbrev N_law_spoil : List Str := ["draws", "owners", "priorities", "moves", "kind", "k", "bad"]
theorem sc_law_spoil : FnScope N_law_spoil ["draws", "owners", "priorities", "moves"] (defScope s_law_spoil) := ⟨rfl, rfl, rfl, by decide +kernel, rfl, by decide +kernel, by decide +kernel⟩
abbrev s_law : Stmt := topS 23
abbrev N_law : List Str := ["script", "draws", "owners", "priorities", "moves", "count", "passed", "game", "targets", "player", "handed", "found", "outside", "k", "row", "target"]
theorem sc_law : FnScope N_law ["script"] (defScope s_law) := ⟨rfl, rfl, rfl, by decide +kernel, rfl, by decide +kernel, by decide +kernel⟩
abbrev s_Game_init : Stmt := inClass (topS 7) 0
abbrev N_Game_init : List Str := ["self", "owners", "priorities", "moves", "targets"]
theorem sc_Game_init : FnScope N_Game_init ["self", "owners", "priorities", "moves"] (defScope s_Game_init) := ⟨rfl, rfl, rfl, by decide +kernel, rfl, by decide +kernel, by decide +kernel⟩
structure Has (K : PySem.W.Frag) (mg : Str → Option Value) (x : Str) (st : Stmt) (ps : List Str) : Prop where
  ex : ∃ (f : Addr) (fd : FuncData), L2.Fun K x x st f fd ∧ mg x = some (.ref f) ∧ Binds K fd ps []
structure Txt (K : PySem.W.Frag) (mg : Str → Option Value) : Prop where
  h_reversed_graph : Has K mg "reversed_graph" s_reversed_graph ["graph"]
  h_check_moves : Has K mg "check_moves" s_check_moves ["targets", "count"]
  h_check_position : Has K mg "check_position" s_check_position ["game", "position"]
  h_distances : Has K mg "distances" s_distances ["game", "player", "targets"]
  h_law_draws : Has K mg "_law_draws" s_law_draws ["script", "count"]
  h_law_take : Has K mg "_law_take" s_law_take ["draws", "limit"]
  h_law_is_integer : Has K mg "_law_is_integer" s_law_is_integer ["actual"]
  h_law_integers : Has K mg "_law_integers" s_law_integers ["actual", "low", "high"]
  h_law_ascending : Has K mg "_law_ascending" s_law_ascending ["draws", "limit", "share"]
  h_law_flat : Has K mg "_law_flat" s_law_flat ["rows"]
  h_law_game : Has K mg "_law_game" s_law_game ["draws", "most"]
  h_law_outcome : Has K mg "_law_outcome" s_law_outcome ["owners", "priorities", "moves"]
  h_law_distances : Has K mg "_law_distances" s_law_distances ["game", "player", "targets"]
  h_law_expected : Has K mg "_law_expected" s_law_expected ["owners", "moves", "player", "targets"]
  h_law_spoil : Has K mg "_law_spoil" s_law_spoil ["draws", "owners", "priorities", "moves"]
  z_bool : mg "bool" = none
  z_enumerate : mg "enumerate" = none
  z_int : mg "int" = none
  z_isinstance : mg "isinstance" = none
  z_len : mg "len" = none
  z_list : mg "list" = none
  z_max : mg "max" = none
  z_min : mg "min" = none
  z_range : mg "range" = none
  z_set : mg "set" = none
  z_sorted : mg "sorted" = none
  z_tuple : mg "tuple" = none
  er : ∃ (cI cL C fI : Addr) (fdI : FuncData), ErrC K mg "InvalidGame" cI ∧ ErrC K mg "InvalidPosition" cL ∧ GmeC K C ∧ Mk K C fI ∧ mg "Game" = some (.ref C) ∧ L2.Fun K "__init__" "Game.__init__" s_Game_init fI fdI ∧ Binds K fdI ["self", "owners", "priorities", "moves"] []

-- BODY
def spLaw (K : PySem.W.Frag) : Sp := fun vs H Q _ => ∃ (a : Addr) (ns : List Int), vs = [.ref a] ∧ SqL K H a (ns.map V.int) ∧ ns.length ≤ 63 ∧ ∀ H', Q (.bl true) H'
section
variable {P : Program} {w : World} {K : PySem.W.Frag} {mg : Str → Option Value} {base : Heap}
theorem lc_seq {K : PySem.W.Frag} {i : Nat} {a : Addr} {xs : List V} {g : TG} {tt : TT} {te : TE} {vs : List Nat} {σ : L2.St} {H : Hp} {Q : VK} (hv : σ[i]? = some (some (.ref a))) (hq : SeqV H a xs) (Pv : Addr → Nat → Hp → Prop) (h0 : ∀ D, H D = none → Pv D 0 (upd H D (.lst [])))
    (hS : ∀ D j H', H D = none → Pv D j H' → Same H H')
    (hs : ∀ D, H D = none → ∀ i x H', xs[i]? = some x → Pv D i H' → g x (wipe σ vs) H' fun σ2 H2 => wipe σ2 vs = wipe σ vs ∧ tt σ2 H2 fun b H3 => if b = true then te σ2 H3 fun y H4 => ∃ acc, H4 D = some (.lst acc) ∧ acc.length < sizeLine ∧ Pv D (i + 1) (upd H4 D (.lst (acc ++ [y]))) else Pv D (i + 1) H3)
    (hd : ∀ D H', H D = none → Pv D xs.length H' → Q (.ref D) H') : tLc (iSeq K (tVar i)) g tt te vs σ H Q := by
  rcases hq with h | h
  · exact .inl ⟨_, hv, a, rfl, ⟨_, .of h⟩, fun D hD => lc_list (Pv D) (h0 D hD) (fun i H' _ p => .of (hS D i H' hD p _ _ h)) (hs D hD) (fun H' p => hd D H' hD p)⟩
  · exact .inr ⟨_, hv, a, rfl, ⟨_, .of h⟩, fun D hD => lc_tup (Pv D) (h0 D hD) (fun i H' _ p => .of (hS D i H' hD p _ _ h)) (hs D hD) (fun H' p => hd D H' hD p)⟩
theorem rowsUpd {H : Hp} {x : Addr} {o : HO} (hx : ∀ ys, H x ≠ some (.tup ys)) : ∀ {as : List Addr} {rs : List (List Int)}, RowsA .tup H as rs → RowsA .tup (upd H x o) as rs
  | [], [], _ => True.intro
  | a :: as, r :: rs, h => ⟨by
      have h1 := h.1
      rw [upd_ne (fun z => by rw [z] at h1; exact hx _ h1)]
      exact h1, rowsUpd hx h.2⟩
  | [], _ :: _, h => h.elim
  | _ :: _, [], h => h.elim
theorem refs_get {as : List Addr} {i : Nat} {v : V} (h : (as.map V.ref)[i]? = some v) : ∃ a, as[i]? = some a ∧ v = .ref a := by
  rw [List.getElem?_map] at h
  cases e : as[i]? with
  | none => rw [e] at h; cases h
  | some z => rw [e] at h; exact ⟨z, rfl, (Option.some.inj h).symm⟩
theorem ints_get {xs : List Int} {i : Nat} {v : V} (h : (xs.map V.int)[i]? = some v) : ∃ x, xs[i]? = some x ∧ v = .int x := by
  rw [List.getElem?_map] at h
  cases e : xs[i]? with
  | none => rw [e] at h; cases h
  | some z => rw [e] at h; exact ⟨z, rfl, (Option.some.inj h).symm⟩
theorem take_get {α : Type} {xs : List α} {i : Nat} {x : α} (h : xs[i]? = some x) : xs.take (i + 1) = xs.take i ++ [x] := by
  rw [List.take_add_one, h]
  rfl
theorem pl_next {f : Str} {v : V} {fs : List (Str × V)} {n : Nat} (h : fs.length ≤ n) : (putF f v fs).length ≤ n + 1 := Nat.le_trans (putF_len f v fs) (Nat.succ_le_succ h)
theorem pl_lt {fs : List (Str × V)} {n : Nat} (h : fs.length ≤ n) (k : n < 1000) : fs.length < 1000 := Nat.lt_of_le_of_lt h k
theorem pl_0 : ([] : List (Str × V)).length ≤ 0 := Nat.le_refl _
theorem fld_def {Kf : PySem.W.Frag} {ta tv : TE} {f : Str} {D : Ends} {σ : L2.St} {H : Hp} (h : tv σ H fun y H1 => ta σ H1 fun x H2 => ∃ a C dx fs, x = .ref a ∧ H2 a = some (.ins C dx fs) ∧ Cls Kf C ∧ NoAttr Kf C f ∧ fs.length < 1000 ∧ D.nx σ (upd H2 a (.ins C dx (putF f y fs)))) : sFld Kf ta tv f D σ H := h
theorem cb1_def {r : List V → Hp → VK → Prop} {te : TE} {σ : L2.St} {H : Hp} {Q : VK} (h : te σ H fun v H1 => r [v] H1 Q) : tCB r (tCons te tNil) σ H Q := h
theorem rows_some {mk : List V → HO} {H : Hp} : ∀ {as : List Addr} {rs : List (List Int)} {a : Addr}, RowsA mk H as rs → a ∈ as → ∃ o, H a = some o
  | [], _, _, _, h => by simp at h
  | b :: as, [], _, h, _ => h.elim
  | b :: as, r :: rs, a, h, m => by
    rcases List.mem_cons.mp m with z | z
    · rw [z]
      exact ⟨_, h.1⟩
    · exact rows_some h.2 z
theorem LL.same {H H' : Hp} {r : Addr} {as : List Addr} {rows : List (List Int)} (k : Same H H') (h : LL H r as rows) : LL H' r as rows := ⟨k _ _ h.1, h.2.same k⟩
def spChkMoves (cI : Addr) : Sp := fun vs H Q E => ∃ (a : Addr) (xs : List Int) (n : Int), vs = [.ref a, .int n] ∧ H a = some (.lst (xs.map V.int)) ∧ (¬ (xs ≠ [] ∧ Asc n xs) → E (.ref cI) none H) ∧ (xs ≠ [] → Asc n xs → Q .non H)
theorem cal_chkmoves {cI : Addr} (T : Txt K mg) (eI : ErrC K mg "InvalidGame" cI) : CalX P w K mg base 1 "check_moves" (spChkMoves cI) := by
  obtain ⟨f, fd, F, hm, hb⟩ := T.h_check_moves
  refine ⟨f, fd, _, F.okX sc_check_moves (fun vs H Q E h => ?_) (fun cdv A outer s H vs Q E hr h => ?_), hm, F.kp, hb⟩
  · obtain ⟨a, xs, n, rfl, _⟩ := h
    rfl
  · obtain ⟨a, xs, n, rfl, ha, q1, q2⟩ := h
    refine ⟨_, (pss_cons
      (ps_if (pt_cmpR op_eq (pe_callB (call_lenK (K := K) rfl) (by rfl) T.z_len PySem.boot_len (pa_cons (pv 0) pa_nil)) pe_int (nomark _)) (pss_one
      (ps_raise rfl (takes_of rfl rfl rfl rfl) (eI.made rfl))) pss_nil)
      (pss_cons
      (ps_set (i := 2) sc_check_moves.nd rfl (Or.inl rfl) (pe_un un_neg pe_int))
      (pss_one
      (ps_for (passes_of rfl) rfl (pi_list (pv 0)) (pg_name (i := 3) sc_check_moves.nd rfl (.inl rfl)) (pss_cons
      (ps_if (PW.pt (pw_or (pt_cmpR op_le (pv 3) (pv 2) (nomark _)) (pw_or1 (pt_cmpR op_ge (pv 3) (pv 1) (nomark _))))) (pss_one
      (ps_raise rfl (takes_of rfl rfl rfl rfl) (eI.made rfl))) pss_nil)
      (pss_one
      (ps_set (i := 2) sc_check_moves.nd rfl (Or.inl rfl) (pv 3)))))))), ?_⟩
    refine ⟨_, rfl, a, _, rfl, .inl (.of ha), rfl, _, rfl, ite_eq (fun c => q1 fun v => v.1 (List.length_eq_zero_iff.mp (by rw [List.length_map] at c; omega))) (fun c0 => ?_)⟩
    have hne : xs ≠ [] := fun z => c0 (by rw [z]; rfl)
    refine ⟨_, rfl, ?_⟩
    refine ⟨_, rfl, a, rfl, ⟨_, .of ha⟩, for_list (K := K) (a := a) (xs := xs.map V.int) (fun i σ H' => ∃ (b : Int) (v : Option V), σ = [some (.ref a), some (.int n), some (.int b), v] ∧ H' = H ∧ Asc n (xs.take i) ∧ -1 ≤ b ∧ (∀ x ∈ xs.take i, x ≤ b) ∧ (b = -1 ∨ b ∈ xs.take i))
      ⟨-1, none, rfl, rfl, ⟨by simp, by simp⟩, by omega, by simp, .inl rfl⟩ (fun i σ H' _ ⟨_, _, _, z, _⟩ => by rw [z]; exact .of ha) ?_ ?_⟩
    · rintro i y σ H' hi ⟨b, v, rfl, rfl, hA, hb1, hle, hor⟩
      obtain ⟨z, hz, rfl⟩ := ints_get hi
      have cutE : xs = xs.take i ++ z :: xs.drop (i + 1) := by
        conv => lhs; rw [← List.take_append_drop i xs]
        congr 1
        exact List.drop_eq_getElem?_toList_append.trans (by rw [hz]; rfl)
      refine ⟨_, rfl, _, rfl, _, _, rfl, rfl, _, rfl, ite2 (fun c => ?_) (fun c => ?_)⟩
      · have c := of_decide_eq_true c
        refine q1 fun ⟨_, hasc⟩ => ?_
        have hz0 := (hasc.2 z (List.mem_of_getElem? hz)).1
        rcases hor with u | u
        · omega
        · have hp := hasc.1
          rw [cutE] at hp
          have := (List.pairwise_append.mp hp).2.2 b u z List.mem_cons_self
          omega
      have c1 : ¬ z ≤ b := fun u => c (decide_eq_true u)
      refine ⟨_, rfl, _, rfl, _, _, rfl, rfl, _, rfl, ite2 (fun c => ?_) (fun c => ?_)⟩
      · have c := of_decide_eq_true c
        refine q1 fun ⟨_, hasc⟩ => ?_
        have := (hasc.2 z (List.mem_of_getElem? hz)).2
        omega
      have c2 : ¬ n ≤ z := fun u => c (decide_eq_true u)
      refine ⟨_, rfl, z, _, rfl, rfl, ⟨?_, fun x hx => ?_⟩, by omega, fun x hx => ?_, .inr (by rw [take_get hz]; simp)⟩
      · rw [take_get hz]
        refine List.pairwise_append.mpr ⟨hA.1, by simp, fun x hx y hy => ?_⟩
        rw [List.mem_singleton.mp hy]
        have := hle x hx
        omega
      · rw [take_get hz] at hx
        rcases List.mem_append.mp hx with u | u
        · exact hA.2 x u
        · rw [List.mem_singleton.mp u]
          omega
      · rw [take_get hz] at hx
        rcases List.mem_append.mp hx with u | u
        · have := hle x u
          omega
        · rw [List.mem_singleton.mp u]
          exact Int.le_refl _
    · rintro σ H' ⟨b, v, rfl, rfl, hA, _⟩
      rw [List.length_map, List.take_length] at hA
      exact q2 hne hA
def spInitG (C cI : Addr) : Sp := fun vs H Q E => ∃ (x o p r dx : Addr) (ow ps : List Int) (as : List Addr) (c : List (List Int)), vs = [.ref x, .ref o, .ref p, .ref r] ∧ H x = some (.ins C dx []) ∧ H o = some (.lst (ow.map V.int)) ∧ H p = some (.lst (ps.map V.int)) ∧ LL H r as c ∧
  ow.length ≤ 1000 ∧ ps.length ≤ 1000 ∧ c.length ≤ 1000 ∧ (∀ r ∈ c, r.length ≤ 1000) ∧ (¬ Vg ow ps c → E (.ref cI) none H) ∧ (Vg ow ps c → ∀ H', Kp x H H' → GmeAt C H' x ow ps c → Q .non H')
theorem ok_initG {cI C fI : Addr} {fdI : FuncData} (T : Txt K mg) (eI : ErrC K mg "InvalidGame" cI) (PC : GmeC K C) (F : L2.Fun K "__init__" "Game.__init__" s_Game_init fI fdI) :
    FnOk P w K mg base (L2.CX P w) 2 fI fdI ["self", "owners", "priorities", "moves"] (spInitG C cI) := by
  have X_check_moves : CalX P w K mg base 1 "check_moves" (spChkMoves cI) := cal_chkmoves T eI
  refine F.okX sc_Game_init (fun vs H Q E h => ?_) (fun cdv A outer s H vs Q E hr h => ?_)
  · obtain ⟨x, o, p, r, dx, ow, ps, as, c, rfl, _⟩ := h
    rfl
  · obtain ⟨x, o, p, r, dx, ow, ps, as, c, rfl, hx, ho, hp, hL, l1, l2, l3, l4, q1, q2⟩ := h
    refine ⟨_, (pss_cons
      (ps_if (pt_cmpR op_eq (pe_callB (call_lenK (K := K) rfl) (by rfl) T.z_len PySem.boot_len (pa_cons (pv 3) pa_nil)) pe_int (nomark _)) (pss_one
      (ps_raise rfl (takes_of rfl rfl rfl rfl) (eI.made rfl))) pss_nil)
      (pss_cons
      (ps_if (PW.pt (pw_or (pt_cmpR op_ne (pe_callB (call_lenK (K := K) rfl) (by rfl) T.z_len PySem.boot_len (pa_cons (pv 1) pa_nil)) (pe_callB (call_lenK (K := K) rfl) (by rfl) T.z_len PySem.boot_len (pa_cons (pv 3) pa_nil)) (nomark _)) (pw_or1 (pt_cmpR op_ne (pe_callB (call_lenK (K := K) rfl) (by rfl) T.z_len PySem.boot_len (pa_cons (pv 2) pa_nil)) (pe_callB (call_lenK (K := K) rfl) (by rfl) T.z_len PySem.boot_len (pa_cons (pv 3) pa_nil)) (nomark _))))) (pss_one
      (ps_raise rfl (takes_of rfl rfl rfl rfl) (eI.made rfl))) pss_nil)
      (pss_cons
      (ps_if (PW.pt (pw_or (pt_cmpR op_lt (pe_callB (call_minK (K := K) rfl rfl) (by rfl) T.z_min (by decide +kernel) (pa_cons (pv 1) pa_nil)) pe_int (nomark _)) (pw_or1 (pt_cmpR op_gt (pe_callB (call_maxK (K := K) rfl rfl) (by rfl) T.z_max (by decide +kernel) (pa_cons (pv 1) pa_nil)) pe_int (nomark _))))) (pss_one
      (ps_raise rfl (takes_of rfl rfl rfl rfl) (eI.made rfl))) pss_nil)
      (pss_cons
      (ps_if (pt_cmpR op_lt (pe_callB (call_minK (K := K) rfl rfl) (by rfl) T.z_min (by decide +kernel) (pa_cons (pv 2) pa_nil)) pe_int (nomark _)) (pss_one
      (ps_raise rfl (takes_of rfl rfl rfl rfl) (eI.made rfl))) pss_nil)
      (pss_cons
      (ps_for (passes_of rfl) rfl (pi_list (pv 3)) (pg_name (i := 4) sc_Game_init.nd rfl (.inl rfl)) (pss_one
      (ps_expr (pe_cx X_check_moves hr (by decide) (takes_of rfl rfl rfl rfl) (by rfl) (pa_cons (pv 4) (pa_cons (pe_callB (call_lenK (K := K) rfl) (by rfl) T.z_len PySem.boot_len (pa_cons (pv 3) pa_nil)) pa_nil))))))
      (pss_cons
      (ps_fld (pv 0) (pe_callTy (call_tuple_ofK (K := K) rfl) (by rfl) T.z_tuple (by decide +kernel) (pa_cons (pv 1) pa_nil)) rfl)
      (pss_cons
      (ps_fld (pv 0) (pe_callTy (call_tuple_ofK (K := K) rfl) (by rfl) T.z_tuple (by decide +kernel) (pa_cons (pv 2) pa_nil)) rfl)
      (pss_one
      (ps_fld (pv 0) (pe_callTy (call_tuple_ofK (K := K) rfl) (by rfl) T.z_tuple (by decide +kernel) (pa_cons (pe_lc (own := [("targets", 4)]) (g := gName 4) (tt := tYes) rfl sc_Game_init.nd (pi_list (pv 3)) (blkOk_by (N := N_Game_init) (sc := defScope s_Game_init) (by decide +kernel)) (fun _ _ _ _ _ => (pg_name (i := 4) sc_Game_init.nd rfl (Or.inl rfl))) (fun _ _ _ _ _ => pts_nil) (fun _ _ _ _ _ => (pe_callTy (call_tuple_ofK (K := K) rfl) (by rfl) T.z_tuple (by decide +kernel) (pa_cons (pv 4) pa_nil)))) pa_nil)) rfl))))))))), ?_⟩
    have hlen : as.length = c.length := hL.2.len
    have hl2 : (as.map V.ref).length = c.length := by rw [List.length_map, hlen]
    refine ⟨_, rfl, r, _, rfl, .inl (.of hL.1), rfl, _, rfl, ite_eq (fun k => ?_) (fun c0 => ?_)⟩
    · exact q1 fun v => v.ne (List.length_eq_zero_iff.mp (by omega))
    have hne : c ≠ [] := fun z => c0 (by rw [hl2, z]; rfl)
    have hcp := List.length_pos_iff.mpr hne
    refine ⟨_, rfl, o, _, rfl, .inl (.of ho), _, rfl, r, _, rfl, .inl (.of hL.1), rfl, _, rfl, ite_ne (fun k => ?_) (fun c1 => ?_)⟩
    · exact q1 fun v => k (by rw [hl2, List.length_map, v.lo])
    rw [hl2, List.length_map] at c1
    refine ⟨_, rfl, p, _, rfl, .inl (.of hp), _, rfl, r, _, rfl, .inl (.of hL.1), rfl, _, rfl, ite_ne (fun k => ?_) (fun c2 => ?_)⟩
    · exact q1 fun v => k (by rw [hl2, List.length_map, v.lp])
    rw [hl2, List.length_map] at c2
    refine ⟨_, rfl, o, ow, rfl, .of ho, by omega, fun m hm hmin => ⟨_, _, rfl, rfl, _, rfl, ite_lt (fun k => ?_) (fun c3 => ?_)⟩⟩
    · exact q1 fun v => by have := (v.ow1 m hm).1; omega
    refine ⟨_, rfl, o, ow, rfl, .of ho, by omega, fun M hM hmax => ⟨_, _, rfl, rfl, _, rfl, ite_lt (fun k => ?_) (fun c4 => ?_)⟩⟩
    · exact q1 fun v => by have := (v.ow1 M hM).2; omega
    refine ⟨_, rfl, p, ps, rfl, .of hp, by omega, fun m2 hm2 hmin2 => ⟨_, _, rfl, rfl, _, rfl, ite_lt (fun k => ?_) (fun c5 => ?_)⟩⟩
    · exact q1 fun v => by have := v.pr m2 hm2; omega
    refine ⟨_, rfl, r, rfl, ⟨_, .of hL.1⟩, for_list (K := K) (a := r) (xs := as.map V.ref) (fun i σ' H' => ∃ v4 : Option V, σ' = [some (.ref x), some (.ref o), some (.ref p), some (.ref r), v4] ∧ H' = H ∧ ∀ q ∈ c.take i, q ≠ [] ∧ Asc (c.length : Int) q)
      ⟨_, rfl, rfl, by simp⟩ (fun i σ' H' _ ⟨_, _, z, _⟩ => by rw [z]; exact .of hL.1) ?_ ?_⟩
    · rintro i v σ' H' hi ⟨v4, rfl, rfl, hall⟩
      obtain ⟨a, ha, rfl⟩ := refs_get hi
      obtain ⟨row, hrow, hra⟩ := hL.2.get ha
      refine ⟨_, rfl, _, rfl, r, _, rfl, .inl (.of hL.1), a, row, _, rfl, hra, fun k => ?_, fun k1 k2 => ?_⟩
      · exact q1 fun v => k (by rw [hl2]; exact v.mv row (List.mem_of_getElem? hrow))
      · rw [hl2] at k2
        refine ⟨_, rfl, rfl, fun z hz => ?_⟩
        rw [take_get hrow] at hz
        rcases List.mem_append.mp hz with y | y
        · exact hall z y
        · rw [List.mem_singleton.mp y]
          exact ⟨k1, k2⟩
    · rintro σ' H' ⟨v4, rfl, rfl, hall⟩
      rw [hl2, List.take_length] at hall
      have hv : Vg ow ps c := ⟨hne, by omega, by omega, fun z hz => ⟨by have := hmin z hz; omega, by have := hmax z hz; omega⟩, fun z hz => by have := hmin2 z hz; omega, hall⟩
      have nox : o ≠ x := fun z => by rw [z, hx] at ho; cases ho
      have npx : p ≠ x := fun z => by rw [z, hx] at hp; cases hp
      have nrx : r ≠ x := fun z => by have := hL.1; rw [z, hx] at this; cases this
      -- self.owners
      refine ⟨_, rfl, o, _, rfl, .inl ⟨.of ho, fun ot hot => ?_⟩⟩
      have nxo : x ≠ ot := fun z => by rw [z, hot] at hx; cases hx
      refine ⟨_, rfl, x, C, dx, _, rfl, by rw [upd_ne nxo]; exact hx, PC.cl, PC.no, by decide, ?_⟩
      have k2 : Kp x H' (upd (upd H' ot (.tup (ow.map V.int))) x (.ins C dx (putF "owners" (.ref ot) []))) := (Kp.new hot).trans Kp.own
      have x2 : (upd (upd H' ot (.tup (ow.map V.int))) x (.ins C dx (putF "owners" (.ref ot) []))) x = some (.ins C dx (putF "owners" (.ref ot) [])) := upd_same
      have t2 : TupI (upd (upd H' ot (.tup (ow.map V.int))) x (.ins C dx (putF "owners" (.ref ot) []))) ot ow := by
        show _ = _
        rw [upd_ne nxo.symm, upd_same]
      generalize upd (upd H' ot (.tup (ow.map V.int))) x (.ins C dx (putF "owners" (.ref ot) [])) = H2 at k2 x2 t2 ⊢
      -- self.priorities
      refine ⟨_, rfl, p, _, rfl, .inl ⟨.of (k2 _ _ npx hp), fun pt hpt => ?_⟩⟩
      have nxp : x ≠ pt := fun z => by rw [z, hpt] at x2; cases x2
      have nop : ot ≠ pt := fun z => by rw [z] at t2; rw [TupI, hpt] at t2; cases t2
      refine ⟨_, rfl, x, C, dx, _, rfl, by rw [upd_ne nxp]; exact x2, PC.cl, PC.np, pl_lt (pl_next pl_0) (by decide), ?_⟩
      have k3 : Kp x H2 (upd (upd H2 pt (.tup (ps.map V.int))) x (.ins C dx (putF "priorities" (.ref pt) (putF "owners" (.ref ot) [])))) := (Kp.new hpt).trans Kp.own
      have x3 : (upd (upd H2 pt (.tup (ps.map V.int))) x (.ins C dx (putF "priorities" (.ref pt) (putF "owners" (.ref ot) [])))) x = some (.ins C dx (putF "priorities" (.ref pt) (putF "owners" (.ref ot) []))) := upd_same
      have t3 : TupI (upd (upd H2 pt (.tup (ps.map V.int))) x (.ins C dx (putF "priorities" (.ref pt) (putF "owners" (.ref ot) [])))) pt ps := by
        show _ = _
        rw [upd_ne nxp.symm, upd_same]
      have t2' : TupI (upd (upd H2 pt (.tup (ps.map V.int))) x (.ins C dx (putF "priorities" (.ref pt) (putF "owners" (.ref ot) [])))) ot ow := by
        show _ = _
        rw [upd_ne nxo.symm, upd_ne nop]
        exact t2
      generalize upd (upd H2 pt (.tup (ps.map V.int))) x (.ins C dx (putF "priorities" (.ref pt) (putF "owners" (.ref ot) []))) = H3 at k3 x3 t3 t2' ⊢
      have k03 : Kp x H' H3 := k2.trans k3
      have hr3 : H3 r = some (.lst (as.map V.ref)) := k03 _ _ nrx hL.1
      have q3 : ∀ {b : Addr} {xs : List Int}, H' b = some (.lst (xs.map V.int)) → H3 b = some (.lst (xs.map V.int)) := fun {b xs} h => k03 _ _ (fun z => by rw [z, hx] at h; cases h) h
      -- self.moves
      dsimp only
      refine fld_def (cb1_def ?_)
      refine ⟨_, rfl, r, rfl, ⟨_, .of hr3⟩, fun D hD => lc_list (K := K) (a := r) (xs := as.map V.ref) (fun i H4 => ∃ bs : List Addr, Same H3 H4 ∧ H4 D = some (.lst (bs.map V.ref)) ∧ RowsA .tup H4 bs (c.take i))
        ⟨[], same_new hD, upd_same, True.intro⟩ (fun i H4 _ ⟨_, z, _⟩ => .of (z _ _ hr3)) ?_ ?_⟩
      · rintro i v H4 hi ⟨bs, s4, e4, R4⟩
        obtain ⟨a, ha, rfl⟩ := refs_get hi
        obtain ⟨row, hrow, sr⟩ := hL.2.get ha
        have hil : i < c.length := (List.getElem?_eq_some_iff.mp hrow).1
        refine ⟨rfl, _, rfl, ?_⟩
        dsimp only [tNil]
        refine tupq (.inl (s4 _ _ (q3 sr))) fun H5 t s5 t5 => ?_
        have bl : bs.length ≤ i := by
          have := R4.len
          rw [List.length_take] at this
          omega
        refine ⟨_, s5 _ _ e4, by rw [List.length_map]; exact Nat.lt_of_le_of_lt (show bs.length ≤ 1000 by omega) (by decide), bs ++ [t], ?_, ?_, ?_⟩
        · intro b o hb
          rw [upd_ne (ne_of_none hb hD)]
          exact s5 _ _ (s4 _ _ hb)
        · rw [upd_same, List.map_append]
          rfl
        · rw [take_get hrow]
          have nt : ∀ ys, H5 D ≠ some (.tup ys) := fun ys z => by rw [s5 _ _ e4] at z; cases z
          refine RowsA.snoc ?_ (rowsUpd nt (R4.same s5))
          rw [upd_ne (fun z => by rw [z] at t5; exact nt _ t5)]
          exact t5
      · rintro H4 ⟨bs, s4, e4, R4⟩
        rw [hl2, List.take_length] at R4
        refine ⟨D, _, rfl, .inl ⟨.of e4, fun rt hrt => ?_⟩⟩
        have nxr : x ≠ rt := fun z => by
          have y := s4 _ _ x3
          rw [z, hrt] at y
          cases y
        have npr : pt ≠ rt := fun z => by
          have y := s4 _ _ t3
          rw [z, hrt] at y
          cases y
        have nor : ot ≠ rt := fun z => by
          have y := s4 _ _ t2'
          rw [z, hrt] at y
          cases y
        have x4 : (upd H4 rt (.tup (bs.map V.ref))) x = some (.ins C dx (putF "priorities" (.ref pt) (putF "owners" (.ref ot) []))) := by
          rw [upd_ne nxr]
          exact s4 _ _ x3
        refine ⟨_, rfl, x, C, dx, _, rfl, x4, PC.cl, PC.nm, pl_lt (pl_next (pl_next pl_0)) (by decide), q2 hv _ ?_ ⟨dx, ot, pt, rt, bs, upd_same, ?_, ?_, ?_, ?_⟩⟩
        · intro b o nb hb
          rw [upd_ne nb, upd_ne (fun z => by have y := s4 _ _ (k03 _ _ nb hb); rw [z, hrt] at y; cases y)]
          exact s4 _ _ (k03 _ _ nb hb)
        · show _ = _
          rw [upd_ne nxo.symm, upd_ne nor]
          exact s4 _ _ t2'
        · show _ = _
          rw [upd_ne nxp.symm, upd_ne npr]
          exact s4 _ _ t3
        · rw [upd_ne nxr.symm, upd_same]
        · exact rowsUpd (fun ys z => by rw [x4] at z; cases z) (R4.same (same_new hrt))
theorem RowsA.drop {H : Hp} {D : Addr} {o : HO} {as : List Addr} {rs : List (List Int)} (n : D ∉ as) (h : RowsA .lst H as rs) : RowsA .lst (upd H D o) as rs := h.keep fun b _ hb e => by rw [upd_ne (fun z => n (by rw [← z]; exact hb))]; exact e
theorem rows_upd {q : List Int} : ∀ {H : Hp} {as : List Addr} {rows : List (List Int)} {i : Nat} {a : Addr}, RowsA .lst H as rows → as.Nodup → as[i]? = some a → RowsA .lst (upd H a (.lst (q.map V.int))) as (rows.set i q)
  | _, [], _, _, _, _, _, e => by simp at e
  | _, b :: as, [], _, _, h, _, _ => h.elim
  | H, b :: as, r :: rs, 0, a, h, nd, e => by
    have : b = a := Option.some.inj e
    subst this
    exact ⟨upd_same, My.RowsA.drop (List.nodup_cons.mp nd).1 h.2⟩
  | H, b :: as, r :: rs, i + 1, a, h, nd, e => by
    have e2 : as[i]? = some a := e
    refine ⟨?_, rows_upd h.2 (List.nodup_cons.mp nd).2 e2⟩
    rw [upd_ne (fun z => (List.nodup_cons.mp nd).1 (by rw [z]; exact List.mem_of_getElem? e2))]
    exact h.1
def spRev : Sp := fun vs H Q _ => ∃ (r : Addr) (as : List Addr) (c : List (List Int)), vs = [.ref r] ∧ H r = some (.tup (as.map V.ref)) ∧ RowsA .tup H as c ∧ c.length ≤ 1000 ∧ (∀ q ∈ c, Asc (c.length : Int) q) ∧
  ∀ (H' : Hp) (y : Addr) (bs : List Addr) (g : List (List Int)), Same H H' → LL H' y bs g → H y = none → (∀ b ∈ bs, H b = none) → g.length = c.length → (∀ p, p < c.length → g[p]? = some (((List.range c.length).filter fun k => decide ((p : Int) ∈ c.getD k [])).map fun (k : Nat) => (k : Int))) → Q (.ref y) H'
theorem cal_rev (T : Txt K mg) : C8.Cal P w K mg base 1 "reversed_graph" spRev [] := by
  obtain ⟨f, fd, F, hm, hb⟩ := T.h_reversed_graph
  refine ⟨f, fd, _, [], F.ok sc_reversed_graph (fun vs H Q E h => ?_) (fun cdv A outer s H vs Q E hr h => ?_), hm, F.kp, hb, .nil⟩
  · obtain ⟨r, as, c, rfl, _⟩ := h
    rfl
  · obtain ⟨r, as, c, rfl, hr2, hR, l1, hasc, q⟩ := h
    refine ⟨_, (pss_cons
      (ps_setLc (i := 1) (own := [("_", 5)]) (g := gName 5) (tt := tYes) rfl sc_reversed_graph.nd rfl rfl (sw_true rfl rfl rfl (by decide +kernel)) (pi_tup (pv 0)) (blkOk_by (N := N_reversed_graph) (sc := defScope s_reversed_graph) (by decide +kernel)) (fun _ _ _ _ _ => (pg_name (i := 5) sc_reversed_graph.nd rfl (Or.inl rfl))) (fun _ _ _ _ _ => pts_nil) (fun _ _ _ _ _ => (pe_lst pa_nil)))
      (pss_cons
      (ps_for PassesOwn.never rfl (pi_enumT (by rfl) T.z_enumerate (pa_cons (pv 0) pa_nil)) (pg_tup (by rfl) (pgs_cons (pg_name (i := 2) sc_reversed_graph.nd rfl (.inl rfl)) (pgs_cons (pg_name (i := 3) sc_reversed_graph.nd rfl (.inl rfl)) pgs_nil))) (pss_one
      (ps_for PassesOwn.never rfl (pi_tup (pv 3)) (pg_name (i := 4) sc_reversed_graph.nd rfl (.inl rfl)) (pss_one
      (ps_expr (pe_bm PySem.F.plainAttrs_list PySem.F.slot_list_append PySem.F.type_list_append mt_append (pe_ix (ix_listK (K := K) rfl) (pv 1) (pv 4) (fun _ _ => rfl)) (pa_cons (pv 2) pa_nil)))))))
      (pss_one
      (ps_ret (pv 1))))), ?_⟩
    have hl2 : (as.map V.ref).length = c.length := by rw [List.length_map, hR.len]
    refine ⟨_, rfl, r, rfl, ⟨_, .of hr2⟩, fun D hD => lc_tup (K := K) (a := r) (xs := as.map V.ref) (fun i H' => ∃ bs : List Addr, Same H H' ∧ H' D = some (.lst (bs.map V.ref)) ∧ bs.length = i ∧ RowsA .lst H' bs (List.replicate i []) ∧ bs.Nodup ∧ ∀ b ∈ bs, b ≠ D ∧ H b = none ∧ H' b = some (.lst []))
      ⟨[], same_new hD, upd_same, rfl, True.intro, by simp, by simp⟩ (fun i H' _ ⟨_, z, _⟩ => .of (z _ _ hr2)) ?_ ?_⟩
    · rintro i v H2 hi ⟨bs, s2, e2, hbl, R2, nd, hb⟩
      have hil : i < c.length := by rw [← hl2]; exact (List.getElem?_eq_some_iff.mp hi).1
      refine ⟨rfl, Nat.zero_le _, fun t ht => ?_⟩
      have s3 := same_new (o := .lst []) ht
      have e3 := upd_same (H := H2) (a := t) (o := .lst [])
      generalize upd H2 t (.lst []) = H3 at s3 e3 ⊢
      have ntD : t ≠ D := fun z => by rw [z, e2] at ht; cases ht
      have nDb : D ∉ bs := fun z => (hb D z).1 rfl
      have ntb : t ∉ bs := fun z => by rw [(hb t z).2.2] at ht; cases ht
      refine ⟨_, s3 _ _ e2, by rw [List.length_map]; exact Nat.lt_of_le_of_lt (show bs.length ≤ 1000 by omega) (by decide), bs ++ [t], fun b o hbo => ?_, by rw [upd_same, List.map_append]; rfl, by rw [List.length_append, hbl]; rfl, ?_, List.nodup_append.mpr ⟨nd, by simp, fun a ha b hb' => by rw [List.mem_singleton.mp hb']; exact fun z => ntb (z ▸ ha)⟩, fun b hb' => ?_⟩
      · rw [upd_ne (ne_of_none hbo hD)]
        exact s3 _ _ (s2 _ _ hbo)
      · rw [List.replicate_succ']
        refine RowsA.snoc (by rw [upd_ne ntD]; exact e3) (RowsA.keep (fun b o hb' h => ?_) R2)
        rw [upd_ne (fun z => nDb (by rw [← z]; exact hb'))]
        exact s3 _ _ h
      · rcases List.mem_append.mp hb' with y | y
        · rw [upd_ne (hb b y).1]
          exact ⟨(hb b y).1, (hb b y).2.1, s3 _ _ (hb b y).2.2⟩
        · rw [List.mem_singleton.mp y, upd_ne ntD]
          exact ⟨ntD, s2.free ht, e3⟩
    rintro H2 ⟨bs, s2, e2, hbl, R2, nd, hb⟩
    rw [hl2] at hbl R2
    have nDb : D ∉ bs := fun z => (hb D z).1 rfl
    have hbf : ∀ b ∈ bs, H b = none := fun b h => (hb b h).2.1
    clear hb
    obtain ⟨val, hval⟩ : ∃ val : Nat → Nat → List Int, val = fun (i p : Nat) => ((List.range i).filter fun k => decide ((p : Int) ∈ c.getD k [])).map fun (k : Nat) => (k : Int) := ⟨_, rfl⟩
    have hlt : ∀ p, p < c.length → (List.replicate c.length ([] : List Int))[p]? = some (val 0 p) := fun p hp => by
      rw [hval, List.getElem?_replicate, if_pos hp]
      rfl
    refine ⟨_, rfl, r, _, rfl, .of (s2 _ _ hr2), ?_⟩
    refine for_it (walk_enumT (K := K) (a := r) (xs := as.map V.ref)) (fun i σ H' => ∃ (v2 v3 v4 v5 : Option V) (g : List (List Int)), σ = [some (.ref r), some (.ref D), v2, v3, v4, v5] ∧ Same H H' ∧ H' D = some (.lst (bs.map V.ref)) ∧ RowsA .lst H' bs g ∧ g.length = c.length ∧ ∀ p, p < c.length → g[p]? = some (val i p))
      ⟨none, none, none, none, _, rfl, s2, e2, R2, List.length_replicate, hlt⟩ (fun i σ H' _ ⟨_, _, _, _, _, _, z, _⟩ => .of (z _ _ hr2)) ?_ ?_
    · clear s2 e2 R2 hlt
      rintro i v σ H3 H4 hi ⟨v2, v3, v4, v5, g, rfl, s3, e3, R3, gl, hg⟩ ⟨t, xi, y, rfl, ht, rfl, hx, hy⟩
      obtain rfl := Option.some.inj hx
      obtain ⟨a, ha, rfl⟩ := refs_get hy
      obtain ⟨row, hrow, hra⟩ := hR.get ha
      have s4 := s3.trans (same_new (o := .tup [.int (i : Nat), .ref a]) ht)
      have t4 := same_new (o := .tup [.int (i : Nat), .ref a]) ht
      have et := upd_same (H := H3) (a := t) (o := .tup [.int (i : Nat), .ref a])
      have e4 := t4 _ _ e3
      have R4 := R3.same t4
      generalize upd H3 t (.tup [.int (i : Nat), .ref a]) = H4 at s4 et e4 R4 ⊢
      clear t4 s3 e3 R3 ht
      refine ⟨t, _, rfl, .of et, rfl, _, _, rfl, _, _, rfl, rfl, ?_⟩
      have hil := (List.getElem?_eq_some_iff.mp hrow).1
      have ha' := hasc row (List.mem_of_getElem? hrow)
      have hmem : ∀ p, (p ∈ c.getD i []) = (p ∈ row) := fun p => by rw [List.getD_eq_getElem?_getD, hrow]; rfl
      refine ⟨_, rfl, a, rfl, ⟨_, .of (s4 _ _ hra)⟩, for_tup (K := K) (a := a) (xs := row.map V.int) (fun j σ H' => ∃ (v4 v5 : Option V) (g : List (List Int)), σ = [some (.ref r), some (.ref D), some (.int (i : Nat)), some (.ref a), v4, v5] ∧ Same H H' ∧ H' D = some (.lst (bs.map V.ref)) ∧ RowsA .lst H' bs g ∧ g.length = c.length ∧ ∀ p, p < c.length → g[p]? = some (val i p ++ if (p : Int) ∈ row.take j then [(i : Int)] else []))
        ⟨v4, v5, g, rfl, s4, e4, R4, gl, fun p hp => by rw [hg p hp]; simp⟩ (fun j σ H' _ ⟨_, _, _, _, z, _⟩ => .of (z _ _ hra)) ?_ ?_⟩
      · clear s4 e4 R4 gl hg et
        rintro j v σ H5 hj ⟨v4, v5, g, rfl, s5, e5, R5, gl, hg⟩
        obtain ⟨z, hz, rfl⟩ := ints_get hj
        obtain ⟨z0, z1⟩ := ha'.2 z (List.mem_of_getElem? hz)
        have hzn : z.toNat < c.length := by omega
        obtain ⟨b, hb⟩ : ∃ b, bs[z.toNat]? = some b := ⟨_, List.getElem?_eq_getElem (by omega)⟩
        obtain ⟨gr, hgr, eb⟩ := R5.get hb
        have hbm := List.mem_of_getElem? hb
        have hgz := hg _ hzn
        rw [hgr] at hgz
        have hgz := Option.some.inj hgz
        have zz : ((z.toNat : Nat) : Int) = z := by omega
        have cutE : row = row.take j ++ z :: row.drop (j + 1) := by
          conv => lhs; rw [← List.take_append_drop j row]
          congr 1
          exact List.drop_eq_getElem?_toList_append.trans (by rw [hz]; rfl)
        have hnot : z ∉ row.take j := fun hin => by
          have hp := ha'.1
          rw [cutE] at hp
          have := (List.pairwise_append.mp hp).2.2 z hin z List.mem_cons_self
          omega
        rw [zz, if_neg hnot, List.append_nil] at hgz
        have hat : atI (bs.map V.ref) z = some (.ref b) := by
          rw [← zz]
          exact atI_nat (by rw [List.getElem?_map, hb]; rfl)
        have hvl : gr.length ≤ i := by
          rw [hgz, hval, List.length_map]
          exact Nat.le_trans (List.length_filter_le _ _) (by rw [List.length_range]; exact Nat.le_refl _)
        refine ⟨_, rfl, _, rfl, D, _, _, .ref b, rfl, rfl, .of e5, hat, .inl ⟨rfl, _, .of eb⟩, _, rfl, b, _, _, rfl, rfl, eb, lenI (by omega), ?_⟩
        have nbD : b ≠ D := fun y => nDb (y ▸ hbm)
        have eg : (gr.map V.int ++ [V.int (i : Nat)]) = (gr ++ [(i : Int)]).map V.int := by rw [List.map_append]; rfl
        rw [eg]
        refine ⟨_, _, g.set z.toNat (gr ++ [(i : Int)]), rfl, fun d u hd => ?_, ?_, rows_upd R5 nd hb, by rw [List.length_set]; exact gl, fun p hp => ?_⟩
        · rw [upd_ne (ne_of_none hd (hbf b hbm))]
          exact s5 _ _ hd
        · rw [upd_ne nbD.symm]
          exact e5
        · rw [List.getElem?_set, take_get hz]
          by_cases y : z.toNat = p
          · subst y
            rw [if_pos rfl, if_pos (by omega), zz, if_pos (by simp), hgz]
          · rw [if_neg y, hg p hp]
            have h1 : (p : Int) ≠ z := fun k => y (by omega)
            have h2 : ((p : Int) ∈ row.take j ++ [z]) ↔ ((p : Int) ∈ row.take j) := by simp [h1]
            simp only [h2]
      · rintro σ H5 ⟨v4, v5, g, rfl, s5, e5, R5, gl, hg⟩
        rw [List.length_map, List.take_length] at hg
        refine ⟨_, _, _, _, g, rfl, s5, e5, R5, gl, fun p hp => ?_⟩
        rw [hg p hp, hval]
        show some _ = some (List.map _ (List.filter _ (List.range (i + 1))))
        rw [List.range_succ, List.filter_append, List.map_append]
        congr 2
        by_cases y : (p : Int) ∈ row
        · have e : decide ((p : Int) ∈ c.getD i []) = true := decide_eq_true (Eq.mpr (hmem _) y)
          rw [if_pos y]
          simp only [List.filter, e]
          rfl
        · have e : decide ((p : Int) ∈ c.getD i []) = false := decide_eq_false fun k => y (Eq.mp (hmem _) k)
          rw [if_neg y]
          simp only [List.filter, e]
          rfl
    · rintro σ H3 ⟨v2, v3, v4, v5, g, rfl, s3, e3, R3, gl, hg⟩
      rw [hl2] at hg
      refine ⟨_, rfl, q H3 D bs g s3 ⟨e3, R3⟩ hD hbf gl fun p hp => ?_⟩
      rw [hg p hp, hval]
theorem snoc_get {α : Type} {xs : List α} {x y : α} {j : Nat} (h : (xs ++ [x])[j]? = some y) : (j < xs.length ∧ xs[j]? = some y) ∨ (j = xs.length ∧ y = x) := by
  rcases Nat.lt_or_ge j xs.length with c | c
  · rw [List.getElem?_append_left c] at h
    exact .inl ⟨c, h⟩
  · rw [List.getElem?_append_right c] at h
    have e : j - xs.length = 0 := by
      cases e : j - xs.length with
      | zero => rfl
      | succ m => rw [e] at h; cases h
    rw [e] at h
    cases h
    exact .inr ⟨by omega, rfl⟩
theorem ite_f {c : Bool} {A B : Prop} (h : c = false) (q : B) : if c = true then A else B := by
  rw [if_neg (by rw [h]; exact Bool.false_ne_true)]
  exact q
theorem ite_t {c : Bool} {A B : Prop} (h : c = true) (q : A) : if c = true then A else B := by
  rw [if_pos h]
  exact q
def ArrI (H : Hp) (a : Addr) (N : Nat) (s : Nat → Int) : Prop := H a = some (.lst ((List.range N).map fun t => V.int (s t)))
theorem arri_get {N t : Nat} {s : Nat → Int} (h : t < N) : ((List.range N).map fun t => V.int (s t))[t]? = some (.int (s t)) := by
  rw [List.getElem?_map, List.getElem?_range h]
  rfl
theorem arri_len {N : Nat} {s : Nat → Int} : ((List.range N).map fun t => V.int (s t)).length = N := by rw [List.length_map, List.length_range]
theorem arri_set {N i : Nat} {s : Nat → Int} {c : Int} : ((List.range N).map fun t => V.int (s t)).set i (.int c) = (List.range N).map fun t => V.int (if t = i then c else s t) := by
  apply List.ext_getElem?
  intro j
  rw [List.getElem?_set]
  by_cases h : i = j
  · subst h
    rw [if_pos rfl, arri_len]
    by_cases hl : i < N
    · rw [if_pos hl, arri_get hl, if_pos rfl]
    · rw [if_neg hl, List.getElem?_eq_none (by rw [arri_len]; omega)]
  · rw [if_neg h, List.getElem?_map, List.getElem?_map]
    by_cases hl : j < N
    · rw [List.getElem?_range hl]
      simp [show ¬ j = i from fun z => h z.symm]
    · rw [List.getElem?_eq_none (by rw [List.length_range]; omega)]
      rfl
theorem arri_rep {N : Nat} {c : Int} : ((List.replicate N [V.int c]).flatten) = (List.range N).map fun t => V.int ((fun _ => c) t) := by
  induction N with
  | zero => rfl
  | succ n ih =>
    rw [List.replicate_succ', List.flatten_append, ih, List.range_succ, List.map_append]
    rfl
theorem arri_ext {N : Nat} {xs : List V} {s : Nat → Int} (hl : xs.length = N) (h : ∀ t, t < N → xs[t]? = some (.int (s t))) : xs = (List.range N).map fun t => V.int (s t) := by
  apply List.ext_getElem?
  intro t
  by_cases c : t < N
  · rw [h t c, arri_get c]
  · rw [List.getElem?_eq_none (by omega), List.getElem?_eq_none (by rw [arri_len]; omega)]
theorem arri_congr {N : Nat} {s r : Nat → Int} (h : ∀ t, t < N → s t = r t) : ((List.range N).map fun t => V.int (s t)) = (List.range N).map fun t => V.int (r t) :=
  List.map_congr_left fun t ht => by rw [h t (List.mem_range.mp ht)]
theorem cp_out {T : List Nat} {p : Nat} : ∀ {L : List Nat}, p ∉ L → L.countP (fun t => decide (t ∉ T ++ [p])) = L.countP (fun t => decide (t ∉ T))
  | [], _ => rfl
  | x :: L, h => by
    have hx : x ≠ p := fun z => h (by rw [z]; exact List.mem_cons_self)
    have ih := cp_out (T := T) (p := p) (L := L) fun z => h (List.mem_cons_of_mem _ z)
    rw [List.countP_cons, List.countP_cons, ih]
    have : (x ∉ T ++ [p]) ↔ (x ∉ T) := by simp [hx]
    simp only [this]
theorem cp_in {T : List Nat} {p : Nat} (hT : p ∉ T) : ∀ {L : List Nat}, L.Nodup → p ∈ L → L.countP (fun t => decide (t ∉ T)) = L.countP (fun t => decide (t ∉ T ++ [p])) + 1
  | [], _, h => by cases h
  | x :: L, nd, h => by
    have nd' := List.nodup_cons.mp nd
    rw [List.countP_cons, List.countP_cons]
    by_cases hx : x = p
    · subst hx
      rw [cp_out nd'.1, if_pos (decide_eq_true hT), if_neg (by simp)]
    · have hp : p ∈ L := by
        rcases List.mem_cons.mp h with y | y
        · exact absurd y.symm hx
        · exact y
      rw [cp_in hT nd'.2 hp]
      have : (x ∉ T ++ [p]) ↔ (x ∉ T) := by simp [hx]
      simp only [this]
      omega
theorem cp_zero {T L : List Nat} : L.countP (fun t => decide (t ∉ T)) = 0 ↔ ∀ t ∈ L, t ∈ T := by
  rw [List.countP_eq_zero]
  constructor
  · intro h t ht
    have := h t ht
    simpa using this
  · intro h t ht
    have := h t ht
    simpa using this
theorem take_snoc {w : List Nat} {i p : Nat} (h : w[i]? = some p) : w.take (i + 1) = w.take i ++ [p] := take_get h
theorem take_notin {w : List Nat} {i p : Nat} (nd : w.Nodup) (h : w[i]? = some p) : p ∉ w.take i := fun z => by
  have e : w = w.take i ++ w.drop i := (List.take_append_drop i w).symm
  rw [e] at nd
  have hd : p ∈ w.drop i := by
    rw [List.drop_eq_getElem?_toList_append, h]
    simp
  exact (List.nodup_append.mp nd).2.2 p z p hd rfl
theorem nodup_le : ∀ (n : Nat) (w : List Nat), w.Nodup → (∀ k ∈ w, k < n) → w.length ≤ n := fun n w nd h => by
  have := List.Nodup.length_le_of_subset nd (l₂ := List.range n) fun k hk => List.mem_range.mpr (h k hk)
  rw [List.length_range] at this
  exact this
def qv (k : Nat) : V := .int (k : Int)
def DInv (H0 : Hp) (x ta D y LF WQ : Addr) (pl : Int) (bs : List Addr) (g : List (List Int)) (own : Nat → Bool) (mv : Nat → List Nat) (tsP : Nat → Prop) (n : Nat) (m : Nat) (σ : L2.St) (H : Hp) : Prop :=
  ∃ (at_ : Nat) (v3 v9 v10 v11 : Option V) (ws : List Nat) (f lf : Nat → Int) (d : Nat), m = n - at_ ∧ σ = [some (.ref x), some (.int pl), some (.ref ta), v3, some (.ref D), some (.ref y), some (.ref LF), some (.ref WQ), some (.int (at_ : Int)), v9, v10, v11] ∧
    Same H0 H ∧ ArrI H D n f ∧ ArrI H LF n lf ∧ H WQ = some (.lst (ws.map qv)) ∧ LL H y bs g ∧ at_ ≤ ws.length ∧ Bf.M own mv tsP n ws f d ∧ (∀ p, ws[at_]? = some p → f p = (d : Int)) ∧
    (∀ k, k < n → lf k = (((mv k).countP fun t => decide (t ∉ ws.take at_) : Nat) : Int)) ∧ ∀ k, k < n → k ∉ ws → ¬ Bf.Cond own mv (fun t => t ∈ ws.take at_) k
def spChkPos (C cL : Addr) : Sp := fun vs H Q E => ∃ (x : Addr) (z : Int) (ow ps : List Int) (c : List (List Int)), vs = [.ref x, .int z] ∧ GmeAt C H x ow ps c ∧ (¬ (0 ≤ z ∧ z < (c.length : Int)) → E (.ref cL) none H) ∧ (0 ≤ z → z < (c.length : Int) → Q .non H)
theorem cal_chkpos {C cL : Addr} (T : Txt K mg) (eL : ErrC K mg "InvalidPosition" cL) (PC : GmeC K C) : CalX P w K mg base 1 "check_position" (spChkPos C cL) := by
  obtain ⟨f, fd, F, hm, hb⟩ := T.h_check_position
  refine ⟨f, fd, _, F.okX sc_check_position (fun vs H Q E h => ?_) (fun cdv A outer s H vs Q E hr h => ?_), hm, F.kp, hb⟩
  · obtain ⟨x, z, ow, ps, c, rfl, _⟩ := h
    rfl
  · obtain ⟨x, z, ow, ps, c, rfl, ⟨dx, ot, pt, rt, as, e1, e2, e3, e4, e5⟩, q1, q2⟩ := h
    refine ⟨_, (pss_one
      (ps_if (PW.pt (pw_or (pt_cmpR op_lt (pv 1) pe_int (nomark _)) (pw_or1 (pt_cmpR op_ge (pv 1) (pe_callB (call_lenK (K := K) rfl) (by rfl) T.z_len PySem.boot_len (pa_cons (pe_fld (pv 0) rfl) pa_nil)) (nomark _))))) (pss_one
      (ps_raise rfl (takes_of rfl rfl rfl rfl) (eL.made rfl))) pss_nil)), ?_⟩
    have hl2 : (as.map V.ref).length = c.length := by rw [List.length_map, e5.len]
    refine ⟨_, rfl, _, _, rfl, rfl, _, rfl, ite2 (fun k => q1 (fun v => by have := of_decide_eq_true k; omega)) (fun k => ?_)⟩
    have k1 : ¬ z < 0 := fun y => k (decide_eq_true y)
    refine ⟨_, rfl, _, rfl, x, C, dx, _, _, rfl, e1, PC.cl, PC.nm, gf_m _ _ _, rt, _, rfl, .inr (.of e4), _, _, rfl, rfl, _, rfl, ite2 (fun k => q1 (fun v => by have := of_decide_eq_true k; rw [hl2] at this; omega)) (fun k => ?_)⟩
    have k2 : ¬ (((as.map V.ref).length : Nat) : Int) ≤ z := fun y => k (decide_eq_true y)
    rw [hl2] at k2
    exact q2 (by omega) (by omega)
def mvN (c : List (List Int)) (k : Nat) : List Nat := (c.getD k []).map Int.toNat
def ownN (ow : List Int) (pl : Int) (k : Nat) : Bool := decide (ow.getD k 0 = pl)
def spDist (C cL : Addr) (w : World) : Sp := fun vs H Q E => ∃ (x ta : Addr) (pl : Int) (ow ps ts : List Int) (c : List (List Int)), vs = [.ref x, .int pl, .ref ta] ∧ GmeAt C H x ow ps c ∧ Vg ow ps c ∧ c.length ≤ 50 ∧ H ta = some (.lst (ts.map V.int)) ∧ ts.length ≤ 50 ∧
  (¬ (∀ t ∈ ts, 0 ≤ t ∧ t < (c.length : Int)) → E (.ref cL) none H) ∧
  ((∀ t ∈ ts, 0 ≤ t ∧ t < (c.length : Int)) → ∀ (H' : Hp) (D : Addr) (f : Nat → Int), Same H H' → ArrI H' D c.length f → (∀ k, k < c.length → Bf.Lev (ownN ow pl) (mvN c) (fun t => (t : Int) ∈ ts) k (f k)) → (∀ k, k < c.length → f k ≤ (c.length : Int)) → Q (.ref D) H')
theorem cal_dist {C cL : Addr} (T : Txt K mg) (eL : ErrC K mg "InvalidPosition" cL) (PC : GmeC K C) : CalX P w K mg base 3 "distances" (spDist C cL w) := by
  have X_check_position : CalX P w K mg base 1 "check_position" (spChkPos C cL) := cal_chkpos T eL PC
  have C_reversed_graph : C8.Cal P w K mg base 1 "reversed_graph" spRev [] := cal_rev T
  obtain ⟨f, fd, F, hm, hb⟩ := T.h_distances
  refine ⟨f, fd, _, F.okX sc_distances (fun vs H Q E h => ?_) (fun cdv A outer s H vs Q E hr h => ?_), hm, F.kp, hb⟩
  · obtain ⟨x, ta, pl, ow, ps, ts, c, rfl, _⟩ := h
    rfl
  · obtain ⟨x, ta, pl, ow, ps, ts, c, rfl, hG, hV, hn, hta, htl, q1, q2⟩ := h
    refine ⟨_, (pss_cons
      (ps_for (passes_of rfl) rfl (pi_list (pv 2)) (pg_name (i := 3) sc_distances.nd rfl (.inl rfl)) (pss_one
      (ps_expr (pe_cx X_check_position hr (by decide) (takes_of rfl rfl rfl rfl) (by rfl) (pa_cons (pv 0) (pa_cons (pv 3) pa_nil))))))
      (pss_cons
      (ps_set (i := 4) sc_distances.nd rfl (Or.inl rfl) (pe_op op_rep (pe_lst (pa_cons (pe_un un_neg pe_int) pa_nil)) (pe_callB (call_lenK (K := K) rfl) (by rfl) T.z_len PySem.boot_len (pa_cons (pe_fld (pv 0) rfl) pa_nil))))
      (pss_cons
      (ps_for (passes_of rfl) rfl (pi_list (pv 2)) (pg_name (i := 3) sc_distances.nd rfl (.inl rfl)) (pss_one
      (ps_asg pe_int (pg_sub (pv 4) (pv 3) set_list))))
      (pss_cons
      (ps_set (i := 5) sc_distances.nd rfl (Or.inl rfl) (C8.pe_c C_reversed_graph hr (by decide) (by rfl) (pa_cons (pe_fld (pv 0) rfl) pa_nil)))
      (pss_cons
      (ps_setLc (i := 6) (own := [("moves", 11)]) (g := gName 11) (tt := tYes) rfl sc_distances.nd rfl rfl (sw_true rfl rfl rfl (by decide +kernel)) (pi_tup (pe_fld (pv 0) rfl)) (blkOk_by (N := N_distances) (sc := defScope s_distances) (by decide +kernel)) (fun _ _ _ _ _ => (pg_name (i := 11) sc_distances.nd rfl (Or.inl rfl))) (fun _ _ _ _ _ => pts_nil) (fun _ _ _ _ _ => (pe_callB (call_lenK (K := K) rfl) (by rfl) T.z_len PySem.boot_len (pa_cons (pv 11) pa_nil))))
      (pss_cons
      (ps_set (i := 7) sc_distances.nd rfl (Or.inl rfl) (pe_callB (cr_sortedSet' (w := w) rfl rfl) (by rfl) T.z_sorted (by decide +kernel) (pa_cons (pe_callTy (cr_setLI (K := K) (w := w) rfl rfl rfl) (by rfl) T.z_set (by decide +kernel) (pa_cons (pv 2) pa_nil)) pa_nil)))
      (pss_cons
      (ps_set (i := 8) sc_distances.nd rfl (Or.inl rfl) pe_int)
      (C8.pss_cut
      (ps_while (passes_of rfl) (pt_cmpR op_lt (pv 8) (pe_callB (call_lenK (K := K) rfl) (by rfl) T.z_len PySem.boot_len (pa_cons (pv 7) pa_nil)) (nomark _)) (pss_cons
      (ps_set (i := 9) sc_distances.nd rfl (Or.inl rfl) (pe_ix (ix_listK (K := K) rfl) (pv 7) (pv 8) (fun _ _ => rfl)))
      (pss_cons
      (ps_aug (i := 8) sc_distances.nd rfl (.inl rfl) pe_int ip_add)
      (pss_one
      (ps_for (passes_of rfl) rfl (pi_list (pe_ix (ix_listK (K := K) rfl) (pv 5) (pv 9) (fun _ _ => rfl))) (pg_name (i := 10) sc_distances.nd rfl (.inl rfl)) (pss_cons
      (ps_augS (pv 6) (pv 10) (pget_of (K := K) rfl) pe_int ip_sub set_list)
      (pss_one
      (ps_if (PW.pt (pw_and (pt_cmpR op_lt (pe_ix (ix_listK (K := K) rfl) (pv 4) (pv 10) (fun _ _ => rfl)) pe_int (nomark _)) (pw_and1 (PW.pt (pw_or (pt_cmpR op_eq (pe_ix (ix_tupK (K := K) rfl) (pe_fld (pv 0) rfl) (pv 10) (fun _ _ => rfl)) (pv 1) (nomark _)) (pw_or1 (pt_cmpR op_eq (pe_ix (ix_listK (K := K) rfl) (pv 6) (pv 10) (fun _ _ => rfl)) pe_int (nomark _)))))))) (pss_cons
      (ps_asg (pe_op op_add (pe_ix (ix_listK (K := K) rfl) (pv 4) (pv 9) (fun _ _ => rfl)) pe_int) (pg_sub (pv 4) (pv 10) set_list))
      (pss_one
      (ps_expr (pe_bm PySem.F.plainAttrs_list PySem.F.slot_list_append PySem.F.type_list_append mt_append (pv 7) (pa_cons (pv 10) pa_nil))))) pss_nil))))))))
      (pss_one
      (ps_ret (pv 4))))))))))), ?_⟩
    obtain ⟨dx, ot, pt, rt, as, e1, e2, e3, e4, e5⟩ := id hG
    have hl2 : (as.map V.ref).length = c.length := by rw [List.length_map, e5.len]
    refine ⟨_, rfl, ta, rfl, ⟨_, .of hta⟩, for_list (K := K) (a := ta) (xs := ts.map V.int) (fun i σ H' => ∃ v3 : Option V, σ = [some (.ref x), some (.int pl), some (.ref ta), v3, none, none, none, none, none, none, none, none] ∧ H' = H ∧ ∀ t ∈ ts.take i, 0 ≤ t ∧ t < (c.length : Int))
      ⟨none, rfl, rfl, by simp⟩ (fun i σ H' _ ⟨_, _, z, _⟩ => by rw [z]; exact .of hta) ?_ ?_⟩
    · rintro i v σ H' hi ⟨v3, rfl, rfl, hall⟩
      obtain ⟨z, hz, rfl⟩ := ints_get hi
      refine ⟨_, rfl, _, rfl, x, z, ow, ps, c, rfl, hG, fun k => q1 fun hk => k (hk z (List.mem_of_getElem? hz)), fun z0 z1 => ⟨_, rfl, rfl, fun t ht => ?_⟩⟩
      rw [take_get hz] at ht
      rcases List.mem_append.mp ht with y | y
      · exact hall t y
      · rw [List.mem_singleton.mp y]; exact ⟨z0, z1⟩
    rintro σ H' ⟨v3, rfl, rfl, hall⟩
    rw [List.length_map, List.take_length] at hall
    have q := q2 hall
    clear q1 q2
    have hne := hV.ne
    have hcp := List.length_pos_iff.mpr hne
    have hcs : c.length ≤ sizeLine := Nat.le_trans hn (by decide)
    -- found = [-1] * n
    refine ⟨_, rfl, by show 1 ≤ sizeLine; decide, fun M1 nM1 => ?_⟩
    have sM := same_new (o := .lst [.int (-1)]) nM1
    refine ⟨_, rfl, x, C, dx, _, _, rfl, sM _ _ e1, PC.cl, PC.nm, gf_m _ _ _, rt, _, rfl, .inr (.of (sM _ _ e4)), M1, _, _, rfl, rfl, upd_same, ?_, ?_, ?_, fun D hD => ?_⟩
    · rw [hl2]; omega
    · rw [hl2]; omega
    · rw [hl2]; show 1 * ((c.length : Nat) : Int).toNat ≤ sizeLine; omega
    rw [hl2, Int.toNat_natCast, arri_rep]
    have hD0 : H' D = none := sM.free hD
    have s1 := sM.trans (same_new (o := .lst ((List.range c.length).map fun t => V.int ((fun _ => -1) t))) hD)
    have eD : ArrI (upd (upd H' M1 (.lst [.int (-1)])) D (.lst ((List.range c.length).map fun t => V.int ((fun _ => -1) t)))) D c.length (fun _ => -1) := upd_same
    generalize upd (upd H' M1 (.lst [.int (-1)])) D (.lst ((List.range c.length).map fun t => V.int ((fun _ => -1) t))) = H1 at s1 eD ⊢
    clear sM nM1 hD
    have kS : ∀ {X : Hp} {u : HO}, Same H' X → Same H' (upd X D u) := fun {X u} s d v hd => by
      rw [upd_ne (ne_of_none hd hD0)]
      exact s _ _ hd
    -- found[target] = 0
    refine ⟨_, rfl, ta, rfl, ⟨_, .of (s1 _ _ hta)⟩, for_list (K := K) (a := ta) (xs := ts.map V.int) (fun i σ H2 => ∃ v3 : Option V, σ = [some (.ref x), some (.int pl), some (.ref ta), v3, some (.ref D), none, none, none, none, none, none, none] ∧ Same H' H2 ∧ ArrI H2 D c.length (fun k => if (k : Int) ∈ ts.take i then 0 else -1))
      ⟨v3, rfl, s1, eD⟩ (fun i σ H' _ ⟨_, _, z, _⟩ => .of (z _ _ hta)) ?_ ?_⟩
    · rintro i v σ H2 hi ⟨v3, rfl, s2, eD⟩
      obtain ⟨z, hz, rfl⟩ := ints_get hi
      obtain ⟨z0, z1⟩ := hall z (List.mem_of_getElem? hz)
      have ixk : ixN ((List.range c.length).map fun k : Nat => V.int (if (k : Int) ∈ ts.take i then 0 else -1)).length z = some z.toNat := by
        have h := ixN_at (n := ((List.range c.length).map fun k : Nat => V.int (if (k : Int) ∈ ts.take i then 0 else -1)).length) (j := z.toNat) (by rw [arri_len]; omega)
        rw [show ((z.toNat : Nat) : Int) = z by omega] at h
        exact h
      refine ⟨_, rfl, _, rfl, D, _, _, _, rfl, rfl, eD, ixk, _, rfl, kS s2, ?_⟩
      rw [ArrI, upd_same, arri_set (s := fun k => if (k : Int) ∈ ts.take i then 0 else -1)]
      refine congrArg (fun l => some (HO.lst l)) (arri_congr fun k hk => ?_)
      rw [take_get hz]
      by_cases y : k = z.toNat
      · have : (k : Int) = z := by omega
        rw [if_pos y, this, if_pos (by simp)]
      · have h1 : (k : Int) ≠ z := fun u => y (by omega)
        have h2 : ((k : Int) ∈ ts.take i ++ [z]) ↔ ((k : Int) ∈ ts.take i) := by simp [h1]
        rw [if_neg y]
        simp only [h2]
    rintro σ H2 ⟨v3, rfl, s2, eD⟩
    rw [List.length_map, List.take_length] at eD
    clear s1
    -- sources
    refine ⟨_, rfl, x, C, dx, _, _, rfl, s2 _ _ e1, PC.cl, PC.nm, gf_m _ _ _, rt, as, c, rfl, s2 _ _ e4, e5.same s2, by omega, fun r hr => (hV.mv r hr).2, fun H3 y bs g s3 hLg hy0 hb0 gl hg => ?_⟩
    have eD3 := s3 _ _ eD
    have s03 := s2.trans s3
    have nD : ∀ {b : Addr}, H2 b = none → b ≠ D := fun hb z => by rw [z] at hb; rw [ArrI, hb] at eD; cases eD
    have hyH : H' y = none := s2.free hy0
    have hbH : ∀ b ∈ bs, H' b = none := fun b h => s2.free (hb0 b h)
    -- left
    refine ⟨_, rfl, x, C, dx, _, _, rfl, s03 _ _ e1, PC.cl, PC.nm, gf_m _ _ _, rt, rfl, ⟨_, .of (s03 _ _ e4)⟩, fun LF hLF => lc_tup (K := K) (a := rt) (xs := as.map V.ref) (fun i H4 => Same H3 H4 ∧ H4 LF = some (.lst ((List.range i).map fun k => V.int (((c.getD k []).length : Nat) : Int))))
      ⟨same_new hLF, upd_same⟩ (fun i H4 _ ⟨z, _⟩ => .of (z _ _ (s03 _ _ e4))) ?_ ?_⟩
    · rintro i v H4 hi ⟨s4, e4'⟩
      obtain ⟨a, ha, rfl⟩ := refs_get hi
      obtain ⟨row, hrow, hra⟩ := e5.get ha
      refine ⟨rfl, _, rfl, a, _, rfl, .inr (.of (s4 _ _ (s03 _ _ hra))), _, e4', by rw [List.length_map, List.length_range]; exact Nat.lt_of_lt_of_le (List.getElem?_eq_some_iff.mp hi).1 (by rw [hl2]; exact hcs), fun b u hb => ?_, ?_⟩
      · rw [upd_ne (ne_of_none hb hLF)]
        exact s4 _ _ hb
      · rw [upd_same, List.range_succ, List.map_append, List.length_map]
        simp [List.getD_eq_getElem?_getD, hrow]
    rintro H4 ⟨s4, eL⟩
    rw [hl2] at eL
    have eD4 := s4 _ _ eD3
    have s04 := s03.trans s4
    have hLg4 := hLg.same s4
    have hLF0 : H' LF = none := s03.free hLF
    have nLD : LF ≠ D := fun z => by rw [z, eD3] at hLF; cases hLF
    have nLy : LF ≠ y := fun z => by rw [z, hLg.1] at hLF; cases hLF
    have nLb : ∀ b ∈ bs, b ≠ LF := fun b hb z => by
      obtain ⟨i, hi, rfl⟩ := List.getElem_of_mem hb
      obtain ⟨row, _, e⟩ := hLg.2.get (List.getElem?_eq_getElem hi)
      rw [z, hLF] at e
      cases e
    -- waiting
    refine ⟨_, rfl, ta, ts, rfl, .of (s04 _ _ hta), Nat.lt_of_le_of_lt (show ts.length + 1 ≤ 57 by omega) (by decide), fun p0 cc hp0 hcc => ⟨p0, _, cc, rfl, upd_same, by omega, fun ns WQ hpw hmm hnl hWQ => ?_⟩⟩
    have s5 := (same_new (o := SetO w p0 (fun j => decide (j ∈ ts)) cc) hp0).trans (same_new (o := .lst (ns.map V.int)) hWQ)
    have eW : (upd (upd H4 p0 (SetO w p0 (fun j => decide (j ∈ ts)) cc)) WQ (.lst (ns.map V.int))) WQ = some (.lst (ns.map V.int)) := upd_same
    have hWQ4 : H4 WQ = none := (same_new (o := SetO w p0 (fun j => decide (j ∈ ts)) cc) hp0).free hWQ
    generalize upd (upd H4 p0 (SetO w p0 (fun j => decide (j ∈ ts)) cc)) WQ (.lst (ns.map V.int)) = H5 at s5 eW ⊢
    have eD5 := s5 _ _ eD4
    have eL5 := s5 _ _ eL
    have hLg5 := hLg4.same s5
    have s05 := s04.trans s5
    have hWQ0 : H' WQ = none := s04.free hWQ4
    have nWD : WQ ≠ D := fun z => by rw [z, eD4] at hWQ4; cases hWQ4
    have nWL : WQ ≠ LF := fun z => by rw [z, eL] at hWQ4; cases hWQ4
    have nWy : WQ ≠ y := fun z => by rw [z, hLg4.1] at hWQ4; cases hWQ4
    have nWb : ∀ b ∈ bs, b ≠ WQ := fun b hb z => by
      obtain ⟨i, hi, rfl⟩ := List.getElem_of_mem hb
      obtain ⟨row, _, e⟩ := hLg4.2.get (List.getElem?_eq_getElem hi)
      rw [z, hWQ4] at e
      cases e
    have nDb : ∀ b ∈ bs, b ≠ D := fun b hb => nD (hb0 b hb)
    have nDy : y ≠ D := nD hy0
    obtain ⟨n, hnn⟩ : ∃ n, n = c.length := ⟨_, rfl⟩
    obtain ⟨mv, hmv⟩ : ∃ mv, mv = mvN c := ⟨_, rfl⟩
    obtain ⟨own, hown⟩ : ∃ own, own = ownN ow pl := ⟨_, rfl⟩
    have hrow : ∀ k, k < n → c.getD k [] ∈ c := fun k hk => by
      rw [List.getD_eq_getElem?_getD, List.getElem?_eq_getElem (by omega)]
      exact List.getElem_mem _
    have hmem : ∀ k, k < n → ∀ p, p ∈ mv k ↔ (p : Int) ∈ c.getD k [] := fun k hk p => by
      have ha := (hV.mv _ (hrow k hk)).2.2
      rw [hmv]
      unfold mvN
      rw [List.mem_map]
      constructor
      · rintro ⟨z, hz, rfl⟩
        have := ha z hz
        rw [show ((z.toNat : Nat) : Int) = z by omega]
        exact hz
      · intro hz
        exact ⟨(p : Int), hz, by omega⟩
    have hm : ∀ k, k < n → ∀ t ∈ mv k, t < n := fun k hk t ht => by
      have := (hV.mv _ (hrow k hk)).2.2 _ ((hmem k hk t).mp ht)
      omega
    have hmne : ∀ k, k < n → mv k ≠ [] := fun k hk z => by
      have := (hV.mv _ (hrow k hk)).1
      rw [hmv] at z
      exact this (List.map_eq_nil_iff.mp z)
    have hmnd : ∀ k, k < n → (mv k).Nodup := fun k hk => by
      have ha := (hV.mv _ (hrow k hk)).2
      rw [hmv]
      unfold mvN
      refine List.pairwise_map.mpr (List.Pairwise.imp_of_mem (fun {a b} ma mb hab => ?_) ha.1)
      have h1 := ha.2 a ma
      have h2 := ha.2 b mb
      show a.toNat ≠ b.toNat
      omega
    obtain ⟨w0, hw0⟩ : ∃ w0, w0 = ns.map Int.toNat := ⟨_, rfl⟩
    have hnr : ∀ z ∈ ns, 0 ≤ z ∧ z < (c.length : Int) := fun z hz => hall z (by have := (hmm z).mp hz; exact of_decide_eq_true this)
    have ew0 : ns.map V.int = w0.map qv := by
      rw [hw0, List.map_map]
      refine List.map_congr_left fun z hz => ?_
      have := hnr z hz
      show V.int z = V.int ((z.toNat : Nat) : Int)
      rw [show ((z.toNat : Nat) : Int) = z by omega]
    have hw0m : ∀ k : Nat, k ∈ w0 ↔ (k : Int) ∈ ts := fun k => by
      rw [hw0, List.mem_map]
      constructor
      · rintro ⟨z, hz, rfl⟩
        have := hnr z hz
        rw [show ((z.toNat : Nat) : Int) = z by omega]
        exact of_decide_eq_true ((hmm z).mp hz)
      · intro hz
        exact ⟨(k : Int), (hmm _).mpr (decide_eq_true hz), by omega⟩
    have hw0n : w0.Nodup := by
      rw [hw0]
      refine List.pairwise_map.mpr (List.Pairwise.imp_of_mem (fun {a b} ma mb hab => ?_) hpw)
      have h1 := hnr a ma
      have h2 := hnr b mb
      show a.toNat ≠ b.toNat
      omega
    rw [ew0] at eW
    have M0 : Bf.M own mv (fun t => (t : Int) ∈ ts) n w0 (fun k => if (k : Int) ∈ ts then 0 else -1) 0 :=
      Bf.M.init hw0n (fun k hk => by have := hall _ ((hw0m k).mp hk); omega) (fun k _ => hw0m k) (fun k hk => if_pos ((hw0m k).mp hk)) (fun k _ hk => if_neg fun z => hk ((hw0m k).mpr z))
    rw [← hnn] at eD5 eL5 eD4
    refine ⟨fun σ H6 => ∃ (v3 v8 v9 v10 v11 : Option V) (f : Nat → Int), σ = [some (.ref x), some (.int pl), some (.ref ta), v3, some (.ref D), some (.ref y), some (.ref LF), some (.ref WQ), v8, v9, v10, v11] ∧ Same H' H6 ∧ ArrI H6 D n f ∧ (∀ k, k < n → Bf.Lev own mv (fun t => (t : Int) ∈ ts) k (f k)) ∧ ∀ k, k < n → f k ≤ (n : Int), ?_, ?_⟩
    · refine ⟨DInv H' x ta D y LF WQ pl bs g own mv (fun t => (t : Int) ∈ ts) n, ⟨n, 0, v3, none, none, none, w0, _, _, 0, rfl, rfl, s05, eD5, eL5, eW, hLg5, Nat.zero_le _, M0, fun p hp => if_pos ((hw0m p).mp (List.mem_of_getElem? hp)), fun k hk => ?_, fun k hk hkw hc => ?_⟩, ?_⟩
      · rw [hmv]
        simp [mvN]
      · rcases hc with ⟨_, t, _, ht⟩ | ⟨_, hall'⟩
        · simp at ht
        · obtain ⟨t, ht⟩ := List.exists_mem_of_ne_nil _ (hmne k hk)
          have := hall' t ht
          simp at this
      clear eD5 eL5 eW hLg5 M0 s05
      rintro m σ H6 ⟨at_, v3, v9, v10, v11, ws, f, lf, d, rfl, rfl, s6, eD6, eL6, eW6, hLg6, hat, M6, hcur, hlf, hcond⟩
      refine ⟨_, rfl, _, rfl, WQ, _, rfl, .inl (.of eW6), _, _, rfl, rfl, _, rfl, ite2 (fun c1 => ?_) (fun c1 => ?_)⟩
      · have c1 := of_decide_eq_true c1
        rw [List.length_map] at c1
        have hwn : ws.length ≤ n := nodup_le n ws M6.nd M6.lt
        refine ⟨DInv H' x ta D y LF WQ pl bs g own mv (fun t => (t : Int) ∈ ts) n (n - (at_ + 1)), fun σ' H'' hN => ⟨_, by omega, hN⟩, ?_⟩
        obtain ⟨p, hp⟩ : ∃ p, ws[at_]? = some p := ⟨_, List.getElem?_eq_getElem (by omega)⟩
        have hpn := M6.lt p (List.mem_of_getElem? hp)
        have hfp := hcur p hp
        have htk := take_snoc hp
        have hpt := take_notin M6.nd hp
        obtain ⟨b, hb⟩ : ∃ b, bs[p]? = some b := ⟨_, List.getElem?_eq_getElem (by rw [hLg6.2.len]; omega)⟩
        obtain ⟨Sp, hSp⟩ : ∃ Sp, Sp = (List.range n).filter fun k => decide ((p : Int) ∈ c.getD k []) := ⟨_, rfl⟩
        have hbl : ∀ {X : Hp}, LL X y bs g → X b = some (.lst (Sp.map qv)) := fun {X} hX => by
          obtain ⟨gr, h1, h2⟩ := hX.2.get hb
          rw [hg p (by omega)] at h1
          have h1 := Option.some.inj h1
          rw [← hnn, ← hSp] at h1
          rw [h2, ← h1, List.map_map]
          rfl
        have hSpm : ∀ k, k ∈ Sp ↔ k < n ∧ p ∈ mv k := fun k => by
          rw [hSp, List.mem_filter, List.mem_range]
          constructor
          · rintro ⟨h1, h2⟩
            exact ⟨h1, (hmem k h1 p).mpr (of_decide_eq_true h2)⟩
          · rintro ⟨h1, h2⟩
            exact ⟨h1, decide_eq_true ((hmem k h1 p).mp h2)⟩
        have hSpn : Sp.Nodup := by rw [hSp]; exact List.nodup_range.filter _
        refine ⟨_, rfl, _, rfl, WQ, _, _, .int (p : Int), rfl, rfl, .of eW6, atI_nat (by rw [List.getElem?_map, hp]; rfl), ?_⟩
        have hkeep : ∀ {X : Hp} {o : Addr} {u : HO}, (∀ b ∈ bs, b ≠ o) → y ≠ o → LL X y bs g → LL (upd X o u) y bs g := fun {X o u} n1 n2 hX => ⟨by rw [upd_ne n2]; exact hX.1, RowsA.keep (fun b' u' hb' h => by rw [upd_ne (n1 b' hb')]; exact h) hX.2⟩
        have hS0 : ∀ {X : Hp} {o : Addr} {u : HO}, H' o = none → Same H' X → Same H' (upd X o u) := fun {X o u} ho s d v hd => by
          rw [upd_ne (ne_of_none hd ho)]
          exact s _ _ hd
        refine ⟨_, rfl, _, _, rfl, rfl, ?_⟩
        refine ⟨_, rfl, _, rfl, y, _, _, .ref b, rfl, rfl, .of hLg6.1, atI_nat (by rw [List.getElem?_map, hb]; rfl), b, rfl, ⟨_, .of (hbl hLg6)⟩, for_list (K := K) (a := b) (xs := Sp.map qv) (fun j σ H7 => ∃ (v10 : Option V) (e : List Nat) (f' lf' : Nat → Int), σ = [some (.ref x), some (.int pl), some (.ref ta), v3, some (.ref D), some (.ref y), some (.ref LF), some (.ref WQ), some (.int ((at_ + 1 : Nat) : Int)), some (.int (p : Int)), v10, v11] ∧
            Same H' H7 ∧ ArrI H7 D n f' ∧ ArrI H7 LF n lf' ∧ H7 WQ = some (.lst ((ws ++ e).map qv)) ∧ LL H7 y bs g ∧ Bf.M own mv (fun t => (t : Int) ∈ ts) n (ws ++ e) f' d ∧ f' p = (d : Int) ∧
            (∀ k, k < n → lf' k = (((mv k).countP fun t => decide (t ∉ ws.take at_) : Nat) : Int) - (if k ∈ Sp.take j then 1 else 0)) ∧ ∀ k, k < n → k ∉ ws ++ e → ¬ Bf.Cond own mv (fun t => t ∈ ws.take at_) k ∧ (k ∈ Sp.take j → ¬ Bf.Cond own mv (fun t => t ∈ ws.take (at_ + 1)) k))
          ⟨v10, [], f, lf, rfl, s6, eD6, eL6, by rw [List.append_nil]; exact eW6, hLg6, by rw [List.append_nil]; exact M6, hfp, fun k hk => by rw [hlf k hk]; simp, fun k hk hkw => ⟨hcond k hk (by rw [List.append_nil] at hkw; exact hkw), fun z => by simp at z⟩⟩ (fun j σ H7 _ ⟨_, _, _, _, _, _, _, _, _, z, _⟩ => .of (hbl z)) ?_ ?_⟩
        · clear s6 eD6 eL6 eW6 hLg6 hlf hcond hcur M6 hfp
          rintro j v σ H7 hj ⟨v10, e, f', lf', rfl, s7, eD7, eL7, eW7, hLg7, M7, hfp, hlf, hcond⟩
          obtain ⟨sq, hsq, rfl⟩ : ∃ sq, Sp[j]? = some sq ∧ v = qv sq := by
            rw [List.getElem?_map] at hj
            cases e' : Sp[j]? with
            | none => rw [e'] at hj; cases hj
            | some z => rw [e'] at hj; exact ⟨z, rfl, (Option.some.inj hj).symm⟩
          obtain ⟨sn, hps⟩ := (hSpm sq).mp (List.mem_of_getElem? hsq)
          have hnt : sq ∉ Sp.take j := take_notin hSpn hsq
          have hls : lf' sq = (((mv sq).countP fun t => decide (t ∉ ws.take (at_ + 1)) : Nat) : Int) + 1 := by
            rw [hlf sq sn, if_neg hnt, htk, cp_in hpt (hmnd sq sn) hps]
            omega
          have atA : ∀ {h : Nat → Int} {k : Nat}, k < n → atI ((List.range n).map fun t => V.int (h t)) (k : Int) = some (.int (h k)) := fun {h k} hk => atI_nat (arri_get hk)
          have ixA : ∀ {h : Nat → Int} {k : Nat}, k < n → ixN ((List.range n).map fun t => V.int (h t)).length (k : Int) = some k := fun {h k} hk => ixN_at (by rw [arri_len]; exact hk)
          refine ⟨_, rfl, _, rfl, LF, _, _, .int (lf' sq), rfl, rfl, .of eL7, Int.natCast_nonneg _, atA sn, _, _, rfl, rfl, LF, _, _, _, rfl, rfl, eL7, ixA sn, ?_⟩
          rw [arri_set]
          have s8 := hS0 (u := .lst ((List.range n).map fun t => V.int (if t = sq then lf' sq - 1 else lf' t))) hLF0 s7
          have eL8 : ArrI (upd H7 LF (.lst ((List.range n).map fun t => V.int (if t = sq then lf' sq - 1 else lf' t)))) LF n (fun t => if t = sq then lf' sq - 1 else lf' t) := upd_same
          have eD8 : ArrI (upd H7 LF (.lst ((List.range n).map fun t => V.int (if t = sq then lf' sq - 1 else lf' t)))) D n f' := by unfold ArrI; rw [upd_ne nLD.symm]; exact eD7
          have eW8 : (upd H7 LF (.lst ((List.range n).map fun t => V.int (if t = sq then lf' sq - 1 else lf' t)))) WQ = some (.lst ((ws ++ e).map qv)) := by rw [upd_ne nWL]; exact eW7
          have hLg8 := hkeep (u := .lst ((List.range n).map fun t => V.int (if t = sq then lf' sq - 1 else lf' t))) nLb (fun z => nLy z.symm) hLg7
          generalize upd H7 LF (.lst ((List.range n).map fun t => V.int (if t = sq then lf' sq - 1 else lf' t))) = H8 at s8 eL8 eD8 eW8 hLg8 ⊢
          clear s7 eL7 eD7 eW7 hLg7
          have hlf8 : ∀ k, k < n → (if k = sq then lf' sq - 1 else lf' k) = (((mv k).countP fun t => decide (t ∉ ws.take at_) : Nat) : Int) - (if k ∈ Sp.take (j + 1) then 1 else 0) := fun k hk => by
            rw [take_get hsq]
            by_cases y : k = sq
            · subst y
              rw [if_pos rfl, hlf k hk, if_neg hnt, if_pos (by simp)]
              omega
            · have : (k ∈ Sp.take j ++ [sq]) ↔ (k ∈ Sp.take j) := by simp [y]
              rw [if_neg y, hlf k hk]
              simp only [this]
          have hl8 : (if sq = sq then lf' sq - 1 else lf' sq) = (((mv sq).countP fun t => decide (t ∉ ws.take (at_ + 1)) : Nat) : Int) := by rw [if_pos rfl, hls]; omega
          have stay : (sq ∉ ws ++ e → ¬ Bf.Cond own mv (fun t => t ∈ ws.take (at_ + 1)) sq) → ∀ k, k < n → k ∉ ws ++ e → ¬ Bf.Cond own mv (fun t => t ∈ ws.take at_) k ∧ (k ∈ Sp.take (j + 1) → ¬ Bf.Cond own mv (fun t => t ∈ ws.take (at_ + 1)) k) := fun hno k hk hkw => by
            refine ⟨(hcond k hk hkw).1, fun hin => ?_⟩
            rw [take_get hsq] at hin
            rcases List.mem_append.mp hin with z | z
            · exact (hcond k hk hkw).2 z
            · rw [List.mem_singleton.mp z] at hkw ⊢
              exact hno hkw
          have hneg : f' sq < 0 ↔ sq ∉ ws ++ e := by
            constructor
            · intro h1 h2
              obtain ⟨t, e1, _⟩ := M7.lev sq h2
              omega
            · intro h
              rw [M7.neg sq sn h]
              decide
          have hog : ow[sq]? = some (ow.getD sq 0) := by
            rw [List.getD_eq_getElem?_getD, List.getElem?_eq_getElem (by have := hV.lo; omega)]
            rfl
          have hoa : atI (ow.map V.int) (sq : Int) = some (.int (ow.getD sq 0)) := atI_nat (by rw [List.getElem?_map, hog]; rfl)
          have hownq : own sq = decide (ow.getD sq 0 = pl) := by rw [hown]; rfl
          have pin : p ∈ ws.take (at_ + 1) := by rw [htk]; simp
          have hp' : (ws ++ e)[at_]? = some p := by rw [List.getElem?_append_left (by omega)]; exact hp
          have hsub : ∀ t, t ∈ ws.take (at_ + 1) → Bf.A own mv (fun t => (t : Int) ∈ ts) d t := fun t ht => by
            obtain ⟨i, hi, rfl⟩ := List.getElem_of_mem ht
            rw [List.length_take] at hi
            have hiw : i < (ws ++ e).length := by rw [List.length_append]; omega
            have hti : (ws.take (at_ + 1))[i]'(by rw [List.length_take]; exact hi) = (ws ++ e)[i]'hiw := by
              rw [List.getElem_take, List.getElem_append_left (by omega)]
            rw [hti]
            obtain ⟨t', e1', hA, _, _⟩ := M7.lev _ (List.getElem_mem hiw)
            have hle : f' ((ws ++ e)[i]'hiw) ≤ f' p := by
              have hpl : at_ < (ws ++ e).length := by rw [List.length_append]; omega
              rcases Nat.lt_or_ge i at_ with u | u
              · have := List.pairwise_iff_getElem.mp M7.mono i at_ hiw hpl u
                rw [(List.getElem?_eq_some_iff.mp hp').2] at this
                exact this
              · have hi1 : i = at_ := by omega
                subst hi1
                rw [(List.getElem?_eq_some_iff.mp hp').2]
                exact Int.le_refl _
            exact Bf.A_mono (by omega) hA
          refine ⟨_, rfl, _, rfl, D, _, _, .int (f' sq), rfl, rfl, .of eD8, atA sn, _, _, rfl, rfl, _, rfl, ite2 (fun a1 => ?_) (fun a1 => ?_)⟩
          rotate_left 1
          · have a1 : ¬ f' sq < 0 := fun z => a1 (decide_eq_true z)
            exact ite_f rfl ⟨_, e, f', _, rfl, s8, eD8, eL8, eW8, hLg8, M7, hfp, hlf8, stay fun z => absurd (hneg.mpr z) a1⟩
          have hnw : sq ∉ ws ++ e := hneg.mp (of_decide_eq_true a1)
          refine ⟨_, rfl, x, C, dx, _, _, rfl, s8 _ _ e1, PC.cl, PC.no, gf_o _ _ _, _, rfl, ot, _, _, .int (ow.getD sq 0), rfl, rfl, .of (s8 _ _ e2), hoa, _, rfl, rfl, _, rfl, ite_eq (fun a2 => ite_t rfl ?_) (fun a2 => ?_)⟩
          rotate_left 1
          · have hof : own sq = false := by rw [hownq]; exact decide_eq_false a2
            refine ⟨_, rfl, _, rfl, LF, _, _, .int _, rfl, rfl, .of eL8, atA sn, rfl, _, rfl, ite_eq (fun a3 => ?_) (fun a3 => ?_)⟩
            rotate_left 1
            · exact ⟨_, e, f', _, rfl, s8, eD8, eL8, eW8, hLg8, M7, hfp, hlf8, stay fun _ hc => by
                rcases hc with ⟨h1, _⟩ | ⟨_, h2⟩
                · rw [hof] at h1; cases h1
                · have := cp_zero.mpr h2
                  rw [hl8, this] at a3
                  exact a3 rfl⟩
            have hC : Bf.Cond own mv (fun t => t ∈ ws.take (at_ + 1)) sq := .inr ⟨hof, cp_zero.mp (by rw [hl8] at a3; omega)⟩
            refine ⟨_, rfl, _, rfl, D, _, _, .int (f' p), rfl, rfl, .of eD8, atA hpn, _, _, rfl, rfl, _, rfl, _, rfl, D, _, _, _, rfl, rfl, eD8, ixA sn, ?_⟩
            rw [arri_set, hfp, show (d : Int) + 1 = ((d + 1 : Nat) : Int) by omega]
            have M9 := M7.add sn hnw hC (fun t _ ht => hsub t ht) hp' hfp
            have s9 := hS0 (u := .lst ((List.range n).map fun t => V.int (if t = sq then ((d + 1 : Nat) : Int) else f' t))) hD0 s8
            have eD9 : ArrI (upd H8 D (.lst ((List.range n).map fun t => V.int (if t = sq then ((d + 1 : Nat) : Int) else f' t)))) D n (fun t => if t = sq then ((d + 1 : Nat) : Int) else f' t) := upd_same
            have eL9 : ArrI (upd H8 D (.lst ((List.range n).map fun t => V.int (if t = sq then ((d + 1 : Nat) : Int) else f' t)))) LF n (fun t => if t = sq then lf' sq - 1 else lf' t) := by unfold ArrI; rw [upd_ne nLD]; exact eL8
            have eW9 : (upd H8 D (.lst ((List.range n).map fun t => V.int (if t = sq then ((d + 1 : Nat) : Int) else f' t)))) WQ = some (.lst ((ws ++ e).map qv)) := by rw [upd_ne nWD]; exact eW8
            have hLg9 := hkeep (u := .lst ((List.range n).map fun t => V.int (if t = sq then ((d + 1 : Nat) : Int) else f' t))) nDb nDy hLg8
            generalize upd H8 D (.lst ((List.range n).map fun t => V.int (if t = sq then ((d + 1 : Nat) : Int) else f' t))) = H9 at s9 eD9 eL9 eW9 hLg9 ⊢
            clear s8 eL8 eD8 eW8 hLg8
            have hwe : (ws ++ e).length ≤ n := nodup_le n _ M7.nd M7.lt
            have npq : p ≠ sq := fun z => hnw (by rw [← z]; exact List.mem_of_getElem? hp')
            refine ⟨_, rfl, .inl ⟨rfl, _, .of eW9⟩, _, rfl, WQ, _, _, rfl, rfl, eW9, by rw [List.length_map]; exact Nat.lt_of_le_of_lt (show (ws ++ e).length ≤ 1000 by omega) (by decide), ?_⟩
            refine ⟨_, e ++ [sq], _, _, rfl, hS0 hWQ0 s9, by unfold ArrI; rw [upd_ne nWD.symm]; exact eD9, by unfold ArrI; rw [upd_ne nWL.symm]; exact eL9, ?_, hkeep nWb (fun z => nWy z.symm) hLg9, by rw [← List.append_assoc]; exact M9, by show (if p = sq then _ else _) = _; rw [if_neg npq]; exact hfp, hlf8, ?_⟩
            · rw [upd_same, ← List.append_assoc, List.map_append (l₂ := [sq])]
              rfl
            · intro k hk hkw
              rw [← List.append_assoc] at hkw
              have h1 : k ∉ ws ++ e := fun z => hkw (List.mem_append_left _ z)
              have h2 : k ≠ sq := fun z => hkw (List.mem_append_right _ (by rw [z]; exact List.mem_singleton_self _))
              refine ⟨(hcond k hk h1).1, fun hin => ?_⟩
              rw [take_get hsq] at hin
              rcases List.mem_append.mp hin with z | z
              · exact (hcond k hk h1).2 z
              · exact absurd (List.mem_singleton.mp z) h2
          have hC : Bf.Cond own mv (fun t => t ∈ ws.take (at_ + 1)) sq := .inl ⟨by rw [hownq]; exact decide_eq_true a2, p, hps, pin⟩
          refine ⟨_, rfl, _, rfl, D, _, _, .int (f' p), rfl, rfl, .of eD8, atA hpn, _, _, rfl, rfl, _, rfl, _, rfl, D, _, _, _, rfl, rfl, eD8, ixA sn, ?_⟩
          rw [arri_set, hfp, show (d : Int) + 1 = ((d + 1 : Nat) : Int) by omega]
          have M9 := M7.add sn hnw hC (fun t _ ht => hsub t ht) hp' hfp
          have s9 := hS0 (u := .lst ((List.range n).map fun t => V.int (if t = sq then ((d + 1 : Nat) : Int) else f' t))) hD0 s8
          have eD9 : ArrI (upd H8 D (.lst ((List.range n).map fun t => V.int (if t = sq then ((d + 1 : Nat) : Int) else f' t)))) D n (fun t => if t = sq then ((d + 1 : Nat) : Int) else f' t) := upd_same
          have eL9 : ArrI (upd H8 D (.lst ((List.range n).map fun t => V.int (if t = sq then ((d + 1 : Nat) : Int) else f' t)))) LF n (fun t => if t = sq then lf' sq - 1 else lf' t) := by unfold ArrI; rw [upd_ne nLD]; exact eL8
          have eW9 : (upd H8 D (.lst ((List.range n).map fun t => V.int (if t = sq then ((d + 1 : Nat) : Int) else f' t)))) WQ = some (.lst ((ws ++ e).map qv)) := by rw [upd_ne nWD]; exact eW8
          have hLg9 := hkeep (u := .lst ((List.range n).map fun t => V.int (if t = sq then ((d + 1 : Nat) : Int) else f' t))) nDb nDy hLg8
          generalize upd H8 D (.lst ((List.range n).map fun t => V.int (if t = sq then ((d + 1 : Nat) : Int) else f' t))) = H9 at s9 eD9 eL9 eW9 hLg9 ⊢
          clear s8 eL8 eD8 eW8 hLg8
          have hwe : (ws ++ e).length ≤ n := nodup_le n _ M7.nd M7.lt
          have npq : p ≠ sq := fun z => hnw (by rw [← z]; exact List.mem_of_getElem? hp')
          refine ⟨_, rfl, .inl ⟨rfl, _, .of eW9⟩, _, rfl, WQ, _, _, rfl, rfl, eW9, by rw [List.length_map]; exact Nat.lt_of_le_of_lt (show (ws ++ e).length ≤ 1000 by omega) (by decide), ?_⟩
          refine ⟨_, e ++ [sq], _, _, rfl, hS0 hWQ0 s9, by unfold ArrI; rw [upd_ne nWD.symm]; exact eD9, by unfold ArrI; rw [upd_ne nWL.symm]; exact eL9, ?_, hkeep nWb (fun z => nWy z.symm) hLg9, by rw [← List.append_assoc]; exact M9, by show (if p = sq then _ else _) = _; rw [if_neg npq]; exact hfp, hlf8, ?_⟩
          · rw [upd_same, ← List.append_assoc, List.map_append (l₂ := [sq])]
            rfl
          · intro k hk hkw
            rw [← List.append_assoc] at hkw
            have h1 : k ∉ ws ++ e := fun z => hkw (List.mem_append_left _ z)
            have h2 : k ≠ sq := fun z => hkw (List.mem_append_right _ (by rw [z]; exact List.mem_singleton_self _))
            refine ⟨(hcond k hk h1).1, fun hin => ?_⟩
            rw [take_get hsq] at hin
            rcases List.mem_append.mp hin with z | z
            · exact (hcond k hk h1).2 z
            · exact absurd (List.mem_singleton.mp z) h2
        · rintro σ H7 ⟨v10, e, f', lf', rfl, s7, eD7, eL7, eW7, hLg7, M7, hfp, hlf, hcond⟩
          rw [List.length_map, List.take_length] at hlf hcond
          have hpre : (ws ++ e).take (at_ + 1) = ws.take (at_ + 1) := List.take_append_of_le_length (by omega)
          have hcond' : ∀ k, k < n → k ∉ ws ++ e → ¬ Bf.Cond own mv (fun t => t ∈ (ws ++ e).take (at_ + 1)) k := fun k hk hkw => by
            rw [hpre]
            by_cases hks : k ∈ Sp
            · exact (hcond k hk hkw).2 hks
            · have hpm : p ∉ mv k := fun z => hks ((hSpm k).mpr ⟨hk, z⟩)
              refine fun hc => (hcond k hk hkw).1 (hc.mono fun t ht h => ?_)
              rw [htk] at h
              rcases List.mem_append.mp h with z | z
              · exact z
              · rw [List.mem_singleton.mp z] at ht
                exact absurd ht hpm
          have hlf' : ∀ k, k < n → lf' k = (((mv k).countP fun t => decide (t ∉ (ws ++ e).take (at_ + 1)) : Nat) : Int) := fun k hk => by
            rw [hlf k hk, hpre, htk]
            by_cases hks : k ∈ Sp
            · rw [if_pos hks, cp_in hpt (hmnd k hk) ((hSpm k).mp hks).2]
              omega
            · rw [if_neg hks, cp_out fun z => hks ((hSpm k).mpr ⟨hk, z⟩)]
              omega
          have hp' : (ws ++ e)[at_]? = some p := by rw [List.getElem?_append_left (by omega)]; exact hp
          have hlen : at_ + 1 ≤ (ws ++ e).length := by rw [List.length_append]; omega
          rcases Nat.lt_or_ge (at_ + 1) (ws ++ e).length with z | z
          · obtain ⟨q', hq'⟩ : ∃ q', (ws ++ e)[at_ + 1]? = some q' := ⟨_, List.getElem?_eq_getElem z⟩
            obtain ⟨d', hd', M8⟩ := M7.next hm hp' hfp hq' hcond'
            exact ⟨at_ + 1, _, _, _, _, ws ++ e, f', lf', d', rfl, rfl, s7, eD7, eL7, eW7, hLg7, hlen, M8, fun p' h => by rw [hq'] at h; rw [← Option.some.inj h]; exact hd', hlf', hcond'⟩
          · exact ⟨at_ + 1, _, _, _, _, ws ++ e, f', lf', d, rfl, rfl, s7, eD7, eL7, eW7, hLg7, hlen, M7, (fun p' h => by rw [List.getElem?_eq_none (by omega)] at h; cases h), hlf', hcond'⟩
      · have c1 : ¬ (at_ : Int) < (((ws.map qv).length : Nat) : Int) := fun z => c1 (decide_eq_true z)
        rw [List.length_map] at c1
        have ee : at_ = ws.length := by omega
        rw [ee, List.take_length] at hcond
        refine ⟨_, _, _, _, _, f, rfl, s6, eD6, M6.done hm hcond, fun k hk => ?_⟩
        by_cases y : k ∈ ws
        · have := M6.small k y
          have := nodup_le n ws M6.nd M6.lt
          omega
        · rw [M6.neg k hk y]; omega
    rintro σ H6 ⟨v3, v8, v9, v10, v11, f, rfl, s6, eD6, hlev, hle⟩
    rw [hnn] at eD6 hlev hle
    rw [hown, hmv] at hlev
    exact ⟨_, rfl, q H6 D f s6 eD6 hlev hle⟩
theorem op_inK {X : Cx} {K : PySem.W.Frag} (h : X.K = K) : OpR X (compareOp .In) (rIn K false) := by
  subst h
  exact op_in_seq
theorem op_notInK {X : Cx} {K : PySem.W.Frag} (h : X.K = K) : OpR X (compareOp .NotIn) (rIn K true) := by
  subst h
  exact op_notIn_seq
theorem inV_ints {x : Int} {ts : List Int} : inV (.int x) (ts.map V.int) = decide (x ∈ ts) := by
  rw [Bool.eq_iff_iff, decide_eq_true_iff]
  unfold inV
  rw [List.any_eq_true]
  constructor
  · rintro ⟨y, hy, h⟩
    obtain ⟨z, hz, rfl⟩ := List.mem_map.mp hy
    have : z = x := by simpa [eqV] using h
    rw [← this]; exact hz
  · intro h
    exact ⟨.int x, List.mem_map.mpr ⟨x, h, rfl⟩, by simp [eqV]⟩
theorem inV_bls {b : Bool} {h : Int → Bool} {ts : List Int} : inV (.bl b) (ts.map fun t => V.bl (h t)) = true ↔ ∃ t ∈ ts, h t = b := by
  unfold inV
  rw [List.any_eq_true]
  constructor
  · rintro ⟨y, hy, e⟩
    obtain ⟨z, hz, rfl⟩ := List.mem_map.mp hy
    exact ⟨z, hz, by simpa [eqV] using e⟩
  · rintro ⟨t, ht, e⟩
    exact ⟨_, List.mem_map.mpr ⟨t, ht, rfl⟩, by simp [eqV, e]⟩
theorem flat_ints {ts : List Int} : (ts.map V.int).all flatV = true := List.all_eq_true.mpr fun y hy => by obtain ⟨z, _, rfl⟩ := List.mem_map.mp hy; rfl
theorem flat_bls {h : Int → Bool} {ts : List Int} : (ts.map fun t => V.bl (h t)).all flatV = true := List.all_eq_true.mpr fun y hy => by obtain ⟨z, _, rfl⟩ := List.mem_map.mp hy; rfl
def spExpd : Sp := fun vs H Q _ => ∃ (oa r ta : Addr) (pl : Int) (as : List Addr) (ow ps ts : List Int) (c : List (List Int)), vs = [.ref oa, .ref r, .int pl, .ref ta] ∧ H oa = some (.lst (ow.map V.int)) ∧ LL H r as c ∧ H ta = some (.lst (ts.map V.int)) ∧ Vg ow ps c ∧ c.length ≤ 50 ∧ ts.length ≤ 50 ∧
  ∀ (H' : Hp) (D : Addr) (f : Nat → Int), Same H H' → ArrI H' D c.length f → (∀ k, k < c.length → Bf.Rnd (ownN ow pl) (mvN c) (fun t => (t : Int) ∈ ts) c.length k (f k)) → Q (.ref D) H'
theorem cal_expd (T : Txt K mg) : C8.Cal P w K mg base 1 "_law_expected" spExpd [] := by
  obtain ⟨f, fd, F, hm, hb⟩ := T.h_law_expected
  refine ⟨f, fd, _, [], F.ok sc_law_expected (fun vs H Q E h => ?_) (fun cdv A outer s H vs Q E hr h => ?_), hm, F.kp, hb, .nil⟩
  · obtain ⟨oa, r, ta, pl, as, ow, ps, ts, c, rfl, _⟩ := h
    rfl
  · obtain ⟨oa, r, ta, pl, as, ow, ps, ts, c, rfl, ho, hL, hta, hV, hn, htl, q⟩ := h
    refine ⟨_, (pss_cons
      (ps_setLc (i := 4) (own := [("k", 7)]) (g := gName 7) (tt := tYes) rfl sc_law_expected.nd rfl rfl (sw_true rfl rfl rfl (by decide +kernel)) (pi_range1 (by rfl) T.z_range (pa_cons (pe_callB (call_lenK (K := K) rfl) (by rfl) T.z_len PySem.boot_len (pa_cons (pv 1) pa_nil)) pa_nil)) (blkOk_by (N := N_law_expected) (sc := defScope s_law_expected) (by decide +kernel)) (fun _ _ _ _ _ => (pg_name (i := 7) sc_law_expected.nd rfl (Or.inl rfl))) (fun _ _ _ _ _ => pts_nil) (fun _ _ _ _ _ => (pe_op op_sub (pe_callTy call_int1 (by rfl) T.z_int (by decide +kernel) (pa_cons (pe_cmpR (op_inK (K := K) rfl) (pv 7) (pv 3) (by rfl)) pa_nil)) pe_int)))
      (pss_cons
      (ps_for PassesOwn.never rfl (pi_range1 (by rfl) T.z_range (pa_cons (pe_callB (call_lenK (K := K) rfl) (by rfl) T.z_len PySem.boot_len (pa_cons (pv 1) pa_nil)) pa_nil)) (pg_name (i := 5) sc_law_expected.nd rfl (.inl rfl)) (pss_cons
      (ps_set (i := 6) sc_law_expected.nd rfl (Or.inr rfl) (pe_lc (own := [("distance", 9)]) (g := gName 9) (tt := tYes) rfl sc_law_expected.nd (pi_list (pv 4)) (blkOk_by (N := N_law_expected) (sc := defScope s_law_expected) (by decide +kernel)) (fun _ _ _ _ _ => (pg_name (i := 9) sc_law_expected.nd rfl (Or.inl rfl))) (fun _ _ _ _ _ => pts_nil) (fun _ _ _ _ _ => (pe_cmpR op_ge (pv 9) pe_int (nomark _)))))
      (pss_one
      (ps_for PassesOwn.never rfl (pi_range1 (by rfl) T.z_range (pa_cons (pe_callB (call_lenK (K := K) rfl) (by rfl) T.z_len PySem.boot_len (pa_cons (pv 1) pa_nil)) pa_nil)) (pg_name (i := 7) sc_law_expected.nd rfl (.inl rfl)) (pss_cons
      (ps_setLc (i := 8) (own := [("target", 10)]) (g := gName 10) (tt := tYes) rfl sc_law_expected.nd rfl rfl (sw_true rfl rfl rfl (by decide +kernel)) (pi_list (pe_ix (ix_listK (K := K) rfl) (pv 1) (pv 7) (fun _ _ => rfl))) (blkOk_by (N := N_law_expected) (sc := defScope s_law_expected) (by decide +kernel)) (fun _ _ _ _ _ => (pg_name (i := 10) sc_law_expected.nd rfl (Or.inl rfl))) (fun _ _ _ _ _ => pts_nil) (fun _ _ _ _ _ => (pe_ix (ix_listK (K := K) rfl) (pv 6) (pv 10) (fun _ _ => rfl))))
      (pss_one
      (ps_if (PW.pt (pw_and (pt_cmpR op_lt (pe_ix (ix_listK (K := K) rfl) (pv 4) (pv 7) (fun _ _ => rfl)) pe_int (nomark _)) (pw_and1 (PW.pt (pw_or (PW.pt (pw_and (pt_cmpR op_eq (pe_ix (ix_listK (K := K) rfl) (pv 0) (pv 7) (fun _ _ => rfl)) (pv 2) (nomark _)) (pw_and1 (pt_cmpR (op_inK (K := K) rfl) pe_bl (pv 8) (by rfl))))) (pw_or1 (PW.pt (pw_and (pt_cmpR op_ne (pe_ix (ix_listK (K := K) rfl) (pv 0) (pv 7) (fun _ _ => rfl)) (pv 2) (nomark _)) (pw_and1 (pt_cmpR (op_notInK (K := K) rfl) pe_bl (pv 8) (by rfl))))))))))) (pss_one
      (ps_asg (pe_op op_add (pv 5) pe_int) (pg_sub (pv 4) (pv 7) set_list))) pss_nil)))))))
      (pss_one
      (ps_ret (pv 4))))), ?_⟩
    have hl2 : (as.map V.ref).length = c.length := by rw [List.length_map, hL.2.len]
    have hcs : c.length ≤ sizeLine := Nat.le_trans hn (by decide)
    refine ⟨_, rfl, r, _, rfl, .inl (.of hL.1), ?_⟩
    refine ⟨_, rfl, by rw [hl2]; omega, by rw [hl2]; omega, fun D hD => ?_⟩
    rw [hl2, Int.toNat_natCast]
    obtain ⟨n, hnn⟩ : ∃ n, n = c.length := ⟨_, rfl⟩
    rw [← hnn]
    refine lc_range (lo := 0) (n := n) (fun i H' => Same H H' ∧ H' D = some (.lst ((List.range i).map fun k : Nat => V.int (if (k : Int) ∈ ts then 0 else -1)))) ⟨same_new hD, upd_same⟩ ?_ ?_
    · rintro i H2 hi ⟨s2, e2⟩
      refine ⟨rfl, _, rfl, _, rfl, ta, _, rfl, .inl (.of (s2 _ _ hta)), rfl, flat_ints, .inr ⟨_, rfl, _, _, rfl, rfl, _, e2, by rw [List.length_map, List.length_range]; exact Nat.lt_of_lt_of_le hi (by rw [hnn]; exact hcs), fun b u hb => ?_, ?_⟩⟩
      · rw [upd_ne (ne_of_none hb hD)]
        exact s2 _ _ hb
      · rw [upd_same, List.range_succ, List.map_append]
        have e : (if (if false = true then !inV (.int (0 + (i : Int))) (ts.map V.int) else inV (.int (0 + (i : Int))) (ts.map V.int)) = true then (1 : Int) else 0) - 1 = if (i : Int) ∈ ts then 0 else -1 := by
          rw [if_neg (by decide : ¬ false = true), inV_ints, Int.zero_add]
          by_cases y : (i : Int) ∈ ts
          · rw [if_pos (decide_eq_true y), if_pos y]; rfl
          · rw [if_neg (by simpa using y), if_neg y]; rfl
        exact congrArg (fun z : Int => some (HO.lst (((List.range i).map fun k : Nat => V.int (if (k : Int) ∈ ts then 0 else -1)) ++ [V.int z]))) e
    rintro H2 ⟨s2, e2⟩
    refine ⟨_, rfl, r, _, rfl, .inl (.of (s2 _ _ hL.1)), _, rfl, by rw [hl2]; omega, by rw [hl2]; omega, ?_⟩
    rw [hl2, Int.toNat_natCast, ← hnn]
    refine for_range (lo := 0) (n := n) (fun i σ H3 => ∃ (v5 v6 v7 v8 v9 v10 : Option V) (f : Nat → Int), σ = [some (.ref oa), some (.ref r), some (.int pl), some (.ref ta), some (.ref D), v5, v6, v7, v8, v9, v10] ∧ Same H H3 ∧ ArrI H3 D n f ∧ ∀ k, k < n → Bf.Rnd (ownN ow pl) (mvN c) (fun t => (t : Int) ∈ ts) i k (f k))
      ⟨_, _, _, _, _, _, _, rfl, s2, e2, fun k hk => Bf.Rnd.init (by by_cases y : (k : Int) ∈ ts; exact .inl ⟨y, if_pos y⟩; exact .inr ⟨y, if_neg y⟩)⟩ ?_ ?_
    · clear s2 e2
      rintro i σ H3 hi ⟨v5, v6, v7, v8, v9, v10, f, rfl, s3, eD, hR⟩
      refine ⟨_, rfl, D, rfl, ⟨_, .of eD⟩, fun KN hKN => lc_list (K := K) (a := D) (xs := (List.range n).map fun t => V.int (f t)) (fun j H4 => Same H3 H4 ∧ H4 KN = some (.lst ((List.range j).map fun t => V.bl (decide (0 ≤ f t))))) ⟨same_new hKN, upd_same⟩ (fun j H4 _ ⟨z, _⟩ => .of (z _ _ eD)) ?_ ?_⟩
      · rintro j v H4 hj ⟨s4, e4⟩
        have hjn : j < n := by have := (List.getElem?_eq_some_iff.mp hj).1; rw [arri_len] at this; exact this
        rw [arri_get hjn] at hj
        obtain rfl := Option.some.inj hj
        refine ⟨rfl, _, rfl, _, _, rfl, rfl, _, e4, by rw [List.length_map, List.length_range]; exact Nat.lt_of_lt_of_le hjn (by rw [hnn]; exact hcs), fun b u hb => ?_, ?_⟩
        · rw [upd_ne (ne_of_none hb hKN)]
          exact s4 _ _ hb
        · rw [upd_same, List.range_succ, List.map_append]
          rfl
      rintro H4 ⟨s4, eK⟩
      rw [arri_len] at eK
      have eD4 := s4 _ _ eD
      have nKD : KN ≠ D := fun z => by rw [z, eD] at hKN; cases hKN
      have s04 := s3.trans s4
      have hKN0 := s3.free hKN
      refine ⟨_, rfl, r, _, rfl, .inl (.of (s04 _ _ hL.1)), _, rfl, by rw [hl2]; omega, by rw [hl2]; omega, ?_⟩
      rw [hl2, Int.toNat_natCast, ← hnn]
      refine for_range (lo := 0) (n := n) (fun k σ H5 => ∃ (v7 v8 v9 v10 : Option V) (f' : Nat → Int), σ = [some (.ref oa), some (.ref r), some (.int pl), some (.ref ta), some (.ref D), some (.int (0 + (i : Int))), some (.ref KN), v7, v8, v9, v10] ∧ Same H H5 ∧ ArrI H5 D n f' ∧ H5 KN = some (.lst ((List.range n).map fun t => V.bl (decide (0 ≤ f t)))) ∧ (∀ t, t < n → t < k → Bf.Rnd (ownN ow pl) (mvN c) (fun t => (t : Int) ∈ ts) (i + 1) t (f' t)) ∧ ∀ t, t < n → k ≤ t → f' t = f t)
        ⟨_, _, _, _, f, rfl, s04, eD4, eK, fun t _ h => absurd h (Nat.not_lt_zero t), fun _ _ _ => rfl⟩ ?_ ?_
      · clear s4 eK eD4 s04 s3 eD
        rintro k σ H5 hk ⟨v7, v8, v9, v10, f', rfl, s5, eD5, eK5, hlt, hge⟩
        obtain ⟨row, hrow⟩ : ∃ row, c[k]? = some row := ⟨_, List.getElem?_eq_getElem (by omega)⟩
        obtain ⟨a, ha⟩ : ∃ a, as[k]? = some a := ⟨_, List.getElem?_eq_getElem (by rw [hL.2.len]; omega)⟩
        obtain ⟨row2, h1, hra⟩ := hL.2.get ha
        rw [hrow] at h1
        obtain rfl := Option.some.inj h1
        have hrm := List.mem_of_getElem? hrow
        have hasc := (hV.mv row hrm).2.2
        have hgd : c.getD k [] = row := by rw [List.getD_eq_getElem?_getD, hrow]; rfl
        have hk0 : (0 : Int) + (k : Int) = (k : Int) := by omega
        refine ⟨_, rfl, _, rfl, r, _, _, .ref a, rfl, rfl, .of (s5 _ _ hL.1), by rw [hk0]; exact atI_nat (by rw [List.getElem?_map, ha]; rfl), a, rfl, ⟨_, .of (s5 _ _ hra)⟩, fun NR hNR => lc_list (K := K) (a := a) (xs := row.map V.int) (fun j H6 => Same H5 H6 ∧ H6 NR = some (.lst ((row.take j).map fun t => V.bl (decide (0 ≤ f t.toNat))))) ⟨same_new hNR, upd_same⟩ (fun j H6 _ ⟨z, _⟩ => .of (z _ _ (s5 _ _ hra))) ?_ ?_⟩
        · rintro j v H6 hj ⟨s6, e6⟩
          obtain ⟨z, hz, rfl⟩ := ints_get hj
          obtain ⟨z0, z1⟩ := hasc z (List.mem_of_getElem? hz)
          have zz : ((z.toNat : Nat) : Int) = z := by omega
          have hat : atI ((List.range n).map fun t => V.bl (decide (0 ≤ f t))) z = some (.bl (decide (0 ≤ f z.toNat))) := by
            rw [← zz]
            refine atI_nat ?_
            rw [List.getElem?_map, List.getElem?_range (by omega)]
            rfl
          have hjl := (List.getElem?_eq_some_iff.mp hz).1
          have hrl : row.length ≤ n := by
            have := nodup_le n (row.map Int.toNat) (List.pairwise_map.mpr (List.Pairwise.imp_of_mem (fun {a b} ma mb hab => by have h1 := hasc a ma; have h2 := hasc b mb; show a.toNat ≠ b.toNat; omega) (hV.mv row hrm).2.1)) (fun k hk => by obtain ⟨z, hz, rfl⟩ := List.mem_map.mp hk; have := hasc z hz; omega)
            rw [List.length_map] at this
            exact this
          refine ⟨rfl, _, rfl, _, rfl, KN, _, _, .bl (decide (0 ≤ f z.toNat)), rfl, rfl, .of (s6 _ _ eK5), hat, _, e6, by rw [List.length_map, List.length_take]; exact Nat.lt_of_le_of_lt (show _ ≤ 1000 by omega) (by decide), fun b u hb => ?_, ?_⟩
          · rw [upd_ne (ne_of_none hb hNR)]
            exact s6 _ _ hb
          · rw [upd_same, take_get hz, List.map_append]
            rfl
        rintro H6 ⟨s6, eN⟩
        rw [List.length_map, List.take_length] at eN
        have s06 := s5.trans s6
        have eD6 := s6 _ _ eD5
        have eK6 := s6 _ _ eK5
        have atD : atI ((List.range n).map fun t => V.int (f' t)) (0 + (k : Int)) = some (.int (f k)) := by
          rw [hk0, ← hge k hk (Nat.le_refl k)]
          exact atI_nat (arri_get hk)
        have hog : ow[k]? = some (ow.getD k 0) := by
          rw [List.getD_eq_getElem?_getD, List.getElem?_eq_getElem (by have := hV.lo; omega)]
          rfl
        have hoa : atI (ow.map V.int) (0 + (k : Int)) = some (.int (ow.getD k 0)) := by rw [hk0]; exact atI_nat (by rw [List.getElem?_map, hog]; rfl)
        have hkn : k < c.length := by omega
        have hmvk : mvN c k = row.map Int.toNat := by unfold mvN; rw [hgd]
        obtain ⟨hput, hstay⟩ := Bf.Rnd.step (hR k hk) (b := Bf.Cond (ownN ow pl) (mvN c) (Bf.A (ownN ow pl) (mvN c) (fun t => (t : Int) ∈ ts) i) k) Iff.rfl
        have hAf : ∀ z ∈ row, (0 ≤ f z.toNat ↔ Bf.A (ownN ow pl) (mvN c) (fun t => (t : Int) ∈ ts) i z.toNat) := fun z hz => (hR z.toNat (by have := hasc z hz; omega)).iff
        have hex : (∃ t ∈ row, decide (0 ≤ f t.toNat) = true) ↔ ∃ t ∈ mvN c k, Bf.A (ownN ow pl) (mvN c) (fun t => (t : Int) ∈ ts) i t := by
          rw [hmvk]
          constructor
          · rintro ⟨t, ht, h⟩
            exact ⟨_, List.mem_map.mpr ⟨t, ht, rfl⟩, (hAf t ht).mp (of_decide_eq_true h)⟩
          · rintro ⟨t, ht, h⟩
            obtain ⟨z, hz, rfl⟩ := List.mem_map.mp ht
            exact ⟨z, hz, decide_eq_true ((hAf z hz).mpr h)⟩
        have hall : (¬ ∃ t ∈ row, decide (0 ≤ f t.toNat) = false) ↔ ∀ t ∈ mvN c k, Bf.A (ownN ow pl) (mvN c) (fun t => (t : Int) ∈ ts) i t := by
          rw [hmvk]
          constructor
          · intro h t ht
            obtain ⟨z, hz, rfl⟩ := List.mem_map.mp ht
            refine (hAf z hz).mp (Classical.byContradiction fun hn => h ⟨z, hz, decide_eq_false hn⟩)
          · rintro h ⟨z, hz, he⟩
            exact of_decide_eq_false he ((hAf z hz).mpr (h _ (List.mem_map.mpr ⟨z, hz, rfl⟩)))
        have hown : ownN ow pl k = decide (ow.getD k 0 = pl) := rfl
        refine ⟨_, rfl, _, rfl, D, _, _, .int (f k), rfl, rfl, .of eD6, atD, _, _, rfl, rfl, _, rfl, ite2 (fun a1 => ?_) (fun a1 => ?_)⟩
        rotate_left 1
        · have a1 : ¬ f k < 0 := fun z => a1 (decide_eq_true z)
          refine ite_f rfl ⟨_, _, _, _, f', rfl, s06, eD6, eK6, fun t ht htk => ?_, fun t ht htk => hge t ht (by omega)⟩
          rcases Nat.lt_or_ge t k with y | y
          · exact hlt t ht y
          · obtain rfl : t = k := by omega
            rw [hge t ht (Nat.le_refl t)]
            exact hstay fun h => a1 h.1
        have a1 := of_decide_eq_true a1
        have stay : ¬ Bf.Cond (ownN ow pl) (mvN c) (Bf.A (ownN ow pl) (mvN c) (fun t => (t : Int) ∈ ts) i) k → ∀ t, t < n → t < k + 1 → Bf.Rnd (ownN ow pl) (mvN c) (fun t => (t : Int) ∈ ts) (i + 1) t (f' t) := fun hno t ht htk => by
          rcases Nat.lt_or_ge t k with y | y
          · exact hlt t ht y
          · obtain rfl : t = k := by omega
            rw [hge t ht (Nat.le_refl t)]
            exact hstay fun h => hno h.2
        refine ⟨_, rfl, _, rfl, oa, _, _, .int (ow.getD k 0), rfl, rfl, .of (s06 _ _ ho), hoa, _, rfl, rfl, _, rfl, ite_eq (fun a2 => ?_) (fun a2 => ?_)⟩
        · have hot : ownN ow pl k = true := by rw [hown]; exact decide_eq_true a2
          refine ⟨_, rfl, NR, _, rfl, .inl (.of eN), rfl, flat_bls, _, rfl, ite2 (fun a3 => ite_t rfl ?_) (fun a3 => ?_)⟩
          · have a3 : inV (.bl true) (row.map fun t => V.bl (decide (0 ≤ f t.toNat))) = true := by simpa using a3
            have hC : Bf.Cond (ownN ow pl) (mvN c) (Bf.A (ownN ow pl) (mvN c) (fun t => (t : Int) ∈ ts) i) k := .inl ⟨hot, hex.mp (inV_bls.mp a3)⟩
            have hC2 := hput ⟨a1, hC⟩
            have ixk : ixN ((List.range n).map fun t => V.int (f' t)).length (0 + (k : Int)) = some k := by rw [hk0]; exact ixN_at (by rw [arri_len]; exact hk)
            refine ⟨_, rfl, _, _, rfl, rfl, _, rfl, _, rfl, D, _, _, _, rfl, rfl, eD6, ixk, ?_⟩
            rw [arri_set, show (0 : Int) + (i : Int) + 1 = ((i + 1 : Nat) : Int) by omega]
            refine ⟨_, _, _, _, fun t => if t = k then ((i + 1 : Nat) : Int) else f' t, rfl, fun b u hb => ?_, upd_same, ?_, fun t ht htk => ?_, fun t ht htk => ?_⟩
            · rw [upd_ne (ne_of_none hb hD)]
              exact s06 _ _ hb
            · rw [upd_ne nKD]
              exact eK6
            · show Bf.Rnd _ _ _ _ _ (if t = k then _ else _)
              by_cases y : t = k
              · rw [if_pos y, y]
                exact hC2
              · rw [if_neg y]
                exact hlt t ht (by omega)
            · show (if t = k then _ else _) = _
              rw [if_neg (by omega)]
              exact hge t ht (by omega)
          · have a3 : ¬ inV (.bl true) (row.map fun t => V.bl (decide (0 ≤ f t.toNat))) = true := by simpa using a3
            have hno : ¬ Bf.Cond (ownN ow pl) (mvN c) (Bf.A (ownN ow pl) (mvN c) (fun t => (t : Int) ∈ ts) i) k := fun hc => by
              rcases hc with ⟨_, h⟩ | ⟨h, _⟩
              · exact a3 (inV_bls.mpr (hex.mpr h))
              · rw [hot] at h; cases h
            exact ⟨_, rfl, _, rfl, oa, _, _, .int (ow.getD k 0), rfl, rfl, .of (s06 _ _ ho), hoa, _, rfl, rfl, _, rfl, ite_ne (fun h => absurd a2 h) (fun _ => ite_f rfl ⟨_, _, _, _, f', rfl, s06, eD6, eK6, stay hno, fun t ht htk => hge t ht (by omega)⟩)⟩
        · have hof : ownN ow pl k = false := by rw [hown]; exact decide_eq_false a2
          refine ite_f rfl ⟨_, rfl, _, rfl, oa, _, _, .int (ow.getD k 0), rfl, rfl, .of (s06 _ _ ho), hoa, _, rfl, rfl, _, rfl, ite_ne (fun _ => ?_) (fun h => absurd h a2)⟩
          refine ⟨_, rfl, NR, _, rfl, .inl (.of eN), rfl, flat_bls, _, rfl, ite2 (fun a3 => ?_) (fun a3 => ?_)⟩
          · have a3 : ¬ inV (.bl false) (row.map fun t => V.bl (decide (0 ≤ f t.toNat))) = true := by simpa using a3
            have hC : Bf.Cond (ownN ow pl) (mvN c) (Bf.A (ownN ow pl) (mvN c) (fun t => (t : Int) ∈ ts) i) k := .inr ⟨hof, hall.mp fun h => a3 (inV_bls.mpr h)⟩
            have hC2 := hput ⟨a1, hC⟩
            have ixk : ixN ((List.range n).map fun t => V.int (f' t)).length (0 + (k : Int)) = some k := by rw [hk0]; exact ixN_at (by rw [arri_len]; exact hk)
            refine ⟨_, rfl, _, _, rfl, rfl, _, rfl, _, rfl, D, _, _, _, rfl, rfl, eD6, ixk, ?_⟩
            rw [arri_set, show (0 : Int) + (i : Int) + 1 = ((i + 1 : Nat) : Int) by omega]
            refine ⟨_, _, _, _, fun t => if t = k then ((i + 1 : Nat) : Int) else f' t, rfl, fun b u hb => ?_, upd_same, ?_, fun t ht htk => ?_, fun t ht htk => ?_⟩
            · rw [upd_ne (ne_of_none hb hD)]
              exact s06 _ _ hb
            · rw [upd_ne nKD]
              exact eK6
            · show Bf.Rnd _ _ _ _ _ (if t = k then _ else _)
              by_cases y : t = k
              · rw [if_pos y, y]
                exact hC2
              · rw [if_neg y]
                exact hlt t ht (by omega)
            · show (if t = k then _ else _) = _
              rw [if_neg (by omega)]
              exact hge t ht (by omega)
          · have a3 : inV (.bl false) (row.map fun t => V.bl (decide (0 ≤ f t.toNat))) = true := by simpa using a3
            have hno : ¬ Bf.Cond (ownN ow pl) (mvN c) (Bf.A (ownN ow pl) (mvN c) (fun t => (t : Int) ∈ ts) i) k := fun hc => by
              rcases hc with ⟨h, _⟩ | ⟨_, h⟩
              · rw [hof] at h; cases h
              · exact hall.mpr h (inV_bls.mp a3)
            exact ⟨_, _, _, _, f', rfl, s06, eD6, eK6, stay hno, fun t ht htk => hge t ht (by omega)⟩
      rintro σ H5 ⟨v7, v8, v9, v10, f', rfl, s5, eD5, eK5, hlt, hge⟩
      exact ⟨_, _, _, _, _, _, f', rfl, s5, eD5, fun t ht => hlt t ht ht⟩
    rintro σ H3 ⟨v5, v6, v7, v8, v9, v10, f, rfl, s3, eD, hR⟩
    rw [hnn] at eD hR
    exact ⟨_, rfl, q H3 D f s3 eD hR⟩
theorem cal_draws (T : Txt K mg) : C8.Cal P w K mg base 1 "_law_draws" (spDraws K) [] := by
  obtain ⟨f, fd, F, hm, hb⟩ := T.h_law_draws
  refine ⟨f, fd, _, [], F.ok sc_law_draws (fun vs H Q E h => ?_) (fun cdv A outer s H vs Q E hr h => ?_), hm, F.kp, hb, .nil⟩
  · obtain ⟨a, ns, c, rfl, _⟩ := h
    rfl
  · obtain ⟨a, ns, n, rfl, hS, hn, q⟩ := h
    refine ⟨_, (pss_cons
      (ps_set (i := 2) sc_law_draws.nd rfl (Or.inl rfl) (pe_callTy (call_list_ofK (K := K) rfl) (by rfl) T.z_list (by decide +kernel) (pa_cons (pv 0) pa_nil)))
      (C8.pss_cut
      (ps_if (pt_cmpR op_eq (pe_callB (call_lenK (K := K) rfl) (by rfl) T.z_len PySem.boot_len (pa_cons (pv 2) pa_nil)) pe_int (nomark _)) (pss_one
      (ps_set (i := 2) sc_law_draws.nd rfl (Or.inl rfl) (pe_lst (pa_cons pe_int pa_nil)))) pss_nil)
      (pss_cons
      (ps_set (i := 3) sc_law_draws.nd rfl (Or.inl rfl) (pe_lst pa_nil))
      (pss_cons
      (ps_set (i := 4) sc_law_draws.nd rfl (Or.inl rfl) pe_int)
      (pss_cons
      (ps_for PassesOwn.never rfl (pi_range1 (by rfl) T.z_range (pa_cons (pv 1) pa_nil)) (pg_name (i := 5) sc_law_draws.nd rfl (.inl rfl)) (pss_cons
      (ps_set (i := 6) sc_law_draws.nd rfl (Or.inl rfl) (pe_op op_mod (pv 5) (pe_callB (call_lenK (K := K) rfl) (by rfl) T.z_len PySem.boot_len (pa_cons (pv 2) pa_nil))))
      (pss_cons
      (ps_set (i := 7) sc_law_draws.nd rfl (Or.inl rfl) (pe_ix (ix_listK (K := K) rfl) (pv 2) (pv 6) (fun _ _ => rfl)))
      (pss_cons
      (ps_set (i := 4) sc_law_draws.nd rfl (Or.inl rfl) (pe_op op_mod (pe_callTy call_int1 (by rfl) T.z_int (by decide +kernel) (pa_cons (pe_op op_add (pe_op op_add (pe_op op_add (pe_op op_mul (pv 4) pe_int) (pe_op op_mul (pe_op op_mod (pe_callTy call_int1 (by rfl) T.z_int (by decide +kernel) (pa_cons (pv 7) pa_nil)) pe_int) pe_int)) (pe_op op_mul (pv 5) pe_int)) pe_int) pa_nil)) pe_int))
      (pss_cons
      (ps_set (i := 8) sc_law_draws.nd rfl (Or.inl rfl) (pe_op op_mod (pe_callTy call_int1 (by rfl) T.z_int (by decide +kernel) (pa_cons (pe_op op_add (pe_op op_add (pe_op op_mul (pv 4) (pv 4)) (pe_op op_mul pe_int (pv 4))) (pv 5)) pa_nil)) pe_int))
      (pss_one
      (ps_if (pt_cmpR op_ge (pv 7) (pe_op op_pow pe_int pe_int) (nomark _)) (pss_cons
      (ps_expr (pe_bm PySem.F.plainAttrs_list PySem.F.slot_list_append PySem.F.type_list_append mt_append (pv 3) (pa_cons (pe_op op_mod (pe_callTy call_int1 (by rfl) T.z_int (by decide +kernel) (pa_cons (pv 7) pa_nil)) pe_int) pa_nil)))
      (pss_one
      (ps_asg (pe_op op_fdiv (pv 7) pe_int) (pg_sub (pv 2) (pv 6) set_list)))) (pss_one
      (ps_expr (pe_bm PySem.F.plainAttrs_list PySem.F.slot_list_append PySem.F.type_list_append mt_append (pv 3) (pa_cons (pe_op op_mod (pe_callTy call_int1 (by rfl) T.z_int (by decide +kernel) (pa_cons (pv 8) pa_nil)) pe_int) pa_nil)))))))))))
      (pss_cons
      (ps_expr (pe_bm0 PySem.F.plainAttrs_list PySem.F.slot_list_reverse PySem.F.type_list_reverse mt_reverse (pv 3)))
      (pss_one
      (ps_ret (pv 3))))))))), ?_⟩
    -- cells = list(script)
    refine ⟨_, rfl, a, _, rfl, .inl hS, fun l hl => ?_⟩
    -- if len(cells) == 0: cells = [7]
    refine ⟨fun σ H2 => ∃ (c : Addr) (cs : List Int), σ = [some (.ref a), some (.int n), some (.ref c), none, none, none, none, none, none] ∧ H c = none ∧ Same H H2 ∧ H2 c = some (.lst (cs.map V.int)) ∧ cs ≠ [], ?_, ?_⟩
    · have h0 : (upd H l (.lst (ns.map V.int))) l = some (.lst (ns.map V.int)) := upd_same
      walk_at "bx"
      refine ite2 (fun e => ?_) (fun e => ?_)
      · refine ⟨by show 1 ≤ sizeLine; decide, fun l2 h2 => ?_⟩
        have s1 : Same H (upd H l (.lst (ns.map V.int))) := same_new hl
        exact ⟨l2, [7], rfl, s1.free h2, s1.trans (same_new h2), upd_same, by decide⟩
      · exact ⟨l, ns, rfl, hl, same_new hl, upd_same, fun z => e (by rw [z]; rfl)⟩
    · rintro σ H2 ⟨c, cs, rfl, hc0, s2, hc, hcs⟩
      -- found = [], mixed = 12345
      refine ⟨Nat.zero_le _, fun o ho => ?_⟩
      have hco : c ≠ o := ne_of_none hc ho
      have ho0 : H o = none := s2.free ho
      -- for k in range(count)
      refine ⟨_, rfl, _, rfl, by omega, by omega, for_range (lo := 0) (n := ((n : Int)).toNat) (fun i σ H3 => ∃ (m : Int) (cs fs : List Int) (v5 v6 v7 v8 : Option V), σ = [some (.ref a), some (.int n), some (.ref c), some (.ref o), some (.int m), v5, v6, v7, v8] ∧ 0 ≤ m ∧ m < 2147483647 ∧ Same H H3 ∧ H3 c = some (.lst (cs.map V.int)) ∧ cs ≠ [] ∧ H3 o = some (.lst (fs.map V.int)) ∧ fs.length ≤ i)
        ⟨12345, cs, [], none, none, none, none, rfl, by decide, by decide, s2.trans (same_new ho), by rw [upd_ne hco]; exact hc, hcs, upd_same, Nat.le_refl _⟩ ?_ ?_⟩
      · rintro i σ H3 hi ⟨m, cs, fs, v5, v6, v7, v8, rfl, m0, m1, s3, hc, hcs, hf, hfl⟩
        have hl : 0 < cs.length := List.length_pos_iff.mpr hcs
        obtain ⟨z, hz⟩ : ∃ z, cs[i % cs.length]? = some z := ⟨_, List.getElem?_eq_getElem (Nat.mod_lt _ hl)⟩
        have ej : ((0 : Int) + (i : Int)) % (((cs.map V.int).length : Nat) : Int) = ((i % cs.length : Nat) : Int) := by
          rw [Int.zero_add, List.length_map]
          rfl
        -- j = k % len(cells)
        walk_at "bx"
        refine ⟨(show (0 : Int) < _ by rw [List.length_map]; omega), ?_⟩
        -- cell = cells[j]
        refine ⟨_, rfl, _, rfl, c, _, _, .int z, rfl, rfl, SqL.of hc, ?_, ?_⟩
        · rw [ej]
          exact atI_nat (by rw [List.getElem?_map, hz]; rfl)
        -- mixed, again
        walk_at "bx"
        have b1 : (0 : Int) ≤ z % 1000003 := Int.emod_nonneg _ (by decide)
        refine ⟨.inl ⟨?_, ?_⟩, ?_⟩
        · have := Int.emod_nonneg (m * 48271 + z % 1000003 * 69621 + (0 + (i : Int)) * 7919 + 11) (show (2147483647 : Int) ≠ 0 by decide)
          show -(2 ^ 64) < (m * 48271 + z % 1000003 * 69621 + (0 + (i : Int)) * 7919 + 11) % 2147483647
          omega
        · have := Int.emod_lt_of_pos (m * 48271 + z % 1000003 * 69621 + (0 + (i : Int)) * 7919 + 11) (show (0 : Int) < 2147483647 by decide)
          show (m * 48271 + z % 1000003 * 69621 + (0 + (i : Int)) * 7919 + 11) % 2147483647 < 2 ^ 64
          omega
        have c0 : 0 ≤ (m * 48271 + z % 1000003 * 69621 + (0 + (i : Int)) * 7919 + 11) % 2147483647 := Int.emod_nonneg _ (by decide)
        have c1 : (m * 48271 + z % 1000003 * 69621 + (0 + (i : Int)) * 7919 + 11) % 2147483647 < 2147483647 := Int.emod_lt_of_pos _ (by decide)
        walk_at "bx"
        refine ite2 (fun e => ?_) (fun e => ?_)
        · walk_at "bx"
          refine ⟨lenI (by omega), ?_⟩
          walk_at "bx"
          refine ⟨c, cs.map V.int, _, i % cs.length, rfl, rfl, by rw [upd_ne hco]; exact hc, by rw [ej]; exact ixN_at (by rw [List.length_map]; exact Nat.mod_lt _ hl), ?_⟩
          refine ⟨_, cs.set (i % cs.length) (z / 1000), fs ++ [z % 1000], _, _, _, _, rfl, c0, c1, fun b o' hb => ?_, by rw [upd_same, set_mapI], by simpa using hcs, by rw [upd_ne hco.symm, upd_same]; simp, by simp; omega⟩
          rw [upd_ne (fun z => by rw [z, hc0] at hb; cases hb), upd_ne (fun z => by rw [z, ho0] at hb; cases hb)]
          exact s3 _ _ hb
        · walk_at "bx"
          refine ⟨lenI (by omega), ?_⟩
          refine ⟨_, cs, fs ++ [_], _, _, _, _, rfl, c0, c1, fun b o' hb => ?_, by rw [upd_ne hco]; exact hc, hcs, by rw [upd_same, List.map_append]; rfl, by simp; omega⟩
          rw [upd_ne (fun z => by rw [z, ho0] at hb; cases hb)]
          exact s3 _ _ hb
      · rintro σ H3 ⟨m, cs, fs, v5, v6, v7, v8, rfl, m0, m1, s3, hc, hcs, hf, hfl⟩
        -- found.reverse()
        walk_at "bx"
        refine q _ o (fun b o' hb => ?_) ho0 ⟨fs.reverse, ?_⟩
        · rw [upd_ne (fun z => by rw [z, ho0] at hb; cases hb)]
          exact s3 _ _ hb
        · rw [upd_same, List.map_reverse]
theorem cal_take (T : Txt K mg) : C8.Cal P w K mg base 1 "_law_take" spTake [] := by
  obtain ⟨f, fd, F, hm, hb⟩ := T.h_law_take
  refine ⟨f, fd, _, [], F.ok sc_law_take (fun vs H Q E h => ?_) (fun cdv A outer s H vs Q E hr h => ?_), hm, F.kp, hb, .nil⟩
  · obtain ⟨d, n, rfl, _⟩ := h
    rfl
  · obtain ⟨d, n, rfl, ⟨ds, hd⟩, hn, q⟩ := h
    refine ⟨_, (pss_cons
      (ps_if (pt_cmpR op_eq (pe_callB (call_lenK (K := K) rfl) (by rfl) T.z_len PySem.boot_len (pa_cons (pv 0) pa_nil)) pe_int (nomark _)) (pss_one
      (ps_ret pe_int)) pss_nil)
      (pss_one
      (ps_ret (pe_op op_mod (pe_callTy call_int1 (by rfl) T.z_int (by decide +kernel) (pa_cons (pe_bm0 PySem.F.plainAttrs_list PySem.F.slot_list_pop PySem.F.type_list_pop mt_pop (pv 0)) pa_nil)) (pv 1))))), ?_⟩
    walk_at "bx"
    refine ite2 (fun e => ?_) (fun e => ?_)
    · have q0 := q 0 ds (Int.le_refl 0) hn
      rw [upd_self hd] at q0
      exact q0
    · have hne : ds ≠ [] := fun z => e (by rw [z]; rfl)
      refine ⟨_, rfl, .inl ⟨rfl, _, SqL.of hd⟩, d, _, .int (ds.getLast hne), rfl, rfl, hd, ?_, ?_⟩
      · rw [List.length_map, List.getElem?_map, ← List.getLast?_eq_getElem?, List.getLast?_eq_getLast hne]
        rfl
      · walk_at "bx"
        rw [← List.map_dropLast]
        exact q _ _ (Int.emod_nonneg _ (by omega)) (Int.emod_lt_of_pos _ hn)
theorem cal_isint (T : Txt K mg) : C8.Cal P w K mg base 1 "_law_is_integer" spIsInt [] := by
  obtain ⟨f, fd, F, hm, hb⟩ := T.h_law_is_integer
  refine ⟨f, fd, _, [], F.ok sc_law_is_integer (fun vs H Q E h => ?_) (fun cdv A outer s H vs Q E hr h => ?_), hm, F.kp, hb, .nil⟩
  · obtain ⟨i, rfl, _⟩ := h
    rfl
  · obtain ⟨i, rfl, q⟩ := h
    refine ⟨_, (pss_one
      (ps_ret (pe_and (pe_callB (call_isiK' (K := K) rfl) (by rfl) T.z_isinstance (by decide +kernel) (pa_cons (pv 0) (pa_cons (pe_bltn (v := .ty "int") (by rfl) T.z_int (by decide +kernel) rfl) pa_nil))) (pe_one (pe_not (pe_callB (call_isiK' (K := K) rfl) (by rfl) T.z_isinstance (by decide +kernel) (pa_cons (pv 0) (pa_cons (pe_bltn (v := .ty "bool") (by rfl) T.z_bool (by decide +kernel) rfl) pa_nil)))))))), ?_⟩
    refine ⟨_, rfl, _, _, _, _, true, rfl, .ty "int", .base (.int i), kit_ty (by decide +kernel), true, rfl, iteT ?_⟩
    exact ⟨_, rfl, _, _, _, _, false, rfl, .ty "bool", .base (.int i), kit_ty (by decide +kernel), false, rfl, q⟩
theorem cal_ints (T : Txt K mg) : C8.Cal P w K mg base 2 "_law_integers" spInts [] := by
  have C_law_is_integer : C8.Cal P w K mg base 1 "_law_is_integer" spIsInt [] := cal_isint T
  obtain ⟨f, fd, F, hm, hb⟩ := T.h_law_integers
  refine ⟨f, fd, _, [], F.ok sc_law_integers (fun vs H Q E h => ?_) (fun cdv A outer s H vs Q E hr h => ?_), hm, F.kp, hb, .nil⟩
  · obtain ⟨a, xs, lo, hi, rfl, _⟩ := h
    rfl
  · obtain ⟨a, xs, lo, hi, rfl, ht, hx, q⟩ := h
    refine ⟨_, (pss_cons
      (ps_if (pt_not (pt_val (pe_callB (call_isiK' (K := K) rfl) (by rfl) T.z_isinstance (by decide +kernel) (pa_cons (pv 0) (pa_cons (pe_bltn (v := .ty "tuple") (by rfl) T.z_tuple (by decide +kernel) rfl) pa_nil))))) (pss_one
      (ps_ret pe_bl)) pss_nil)
      (pss_cons
      (ps_for PassesOwn.never rfl (pi_tup (pv 0)) (pg_name (i := 3) sc_law_integers.nd rfl (.inl rfl)) (pss_one
      (ps_if (PW.pt (pw_or (pt_not (pt_val (C8.pe_c C_law_is_integer hr (by decide) (by rfl) (pa_cons (pv 3) pa_nil)))) (pw_or (pt_cmpR op_lt (pv 3) (pv 1) (nomark _)) (pw_or1 (pt_cmpR op_ge (pv 3) (pv 2) (nomark _)))))) (pss_one
      (ps_ret pe_bl)) pss_nil)))
      (pss_one
      (ps_ret pe_bl)))), ?_⟩
    refine ⟨_, rfl, _, _, _, _, true, rfl, .ty "tuple", .base (.tup ht), kit_ty (by decide +kernel), true, rfl, ?_⟩
    refine ⟨_, rfl, a, rfl, ⟨_, .of ht⟩, for_tup (K := K) (a := a) (xs := xs.map V.int) (fun i σ H' => ∃ v : Option V, σ = [some (.ref a), some (.int lo), some (.int hi), v] ∧ H' = H) ⟨none, rfl, rfl⟩ (fun i σ H' _ ⟨_, _, e⟩ => by rw [e]; exact .of ht) ?_ ?_⟩
    · rintro i y σ H' hi ⟨v, rfl, rfl⟩
      obtain ⟨z, hz, rfl⟩ : ∃ z, xs[i]? = some z ∧ y = V.int z := by
        rw [List.getElem?_map] at hi
        cases e : xs[i]? with
        | none => rw [e] at hi; cases hi
        | some z => rw [e] at hi; exact ⟨z, rfl, (Option.some.inj hi).symm⟩
      obtain ⟨c1, c2⟩ := hx z (List.mem_of_getElem? hz)
      refine ⟨_, rfl, z, rfl, true, rfl, ?_⟩
      refine ⟨_, rfl, _, rfl, _, _, rfl, rfl, _, rfl, ite_lt (fun c => absurd c1 (by omega)) (fun _ => ?_)⟩
      refine ⟨_, rfl, _, rfl, _, _, rfl, rfl, _, rfl, ?_⟩
      refine ite2 (fun c => absurd (of_decide_eq_true c) (by omega)) (fun _ => ?_)
      exact ⟨_, rfl, rfl⟩
    · rintro σ H' ⟨v, rfl, rfl⟩
      exact q
theorem asc_snoc {i : Nat} {xs : List Int} (h : Asc (i : Int) xs) : Asc ((i + 1 : Nat) : Int) (xs ++ [(0 : Int) + (i : Int)]) := by
  refine ⟨List.pairwise_append.mpr ⟨h.1, by simp, fun x hx y hy => ?_⟩, fun x hx => ?_⟩
  · rw [List.mem_singleton.mp hy]
    have := (h.2 x hx).2
    omega
  · rcases List.mem_append.mp hx with z | z
    · have := h.2 x z
      omega
    · rw [List.mem_singleton.mp z]
      omega
theorem asc_mono {n m : Int} {xs : List Int} (h : Asc n xs) (k : n ≤ m) : Asc m xs := ⟨h.1, fun x hx => by have := h.2 x hx; omega⟩
theorem asc_nil (n : Int) : Asc n [] := ⟨by simp, by simp⟩
def spAscd : Sp := fun vs H Q _ => ∃ (d : Addr) (n sh : Int), vs = [.ref d, .int n, .int sh] ∧ Drw H d ∧ 0 ≤ n ∧ n ≤ 1000 ∧
  ∀ (H' : Hp) (t : Addr) (xs : List Int), Kp d H H' → Drw H' d → H t = none → H' t = some (.lst (xs.map V.int)) → Asc n xs → (xs.length : Int) ≤ n → Q (.ref t) H'
theorem cal_ascd (T : Txt K mg) : C8.Cal P w K mg base 2 "_law_ascending" spAscd [] := by
  have C_law_take : C8.Cal P w K mg base 1 "_law_take" spTake [] := cal_take T
  obtain ⟨f, fd, F, hm, hb⟩ := T.h_law_ascending
  refine ⟨f, fd, _, [], F.ok sc_law_ascending (fun vs H Q E h => ?_) (fun cdv A outer s H vs Q E hr h => ?_), hm, F.kp, hb, .nil⟩
  · obtain ⟨d, n, sh, rfl, _⟩ := h
    rfl
  · obtain ⟨d, n, sh, rfl, hd, n0, n1, q⟩ := h
    refine ⟨_, (pss_one
      (ps_ret (pe_lc (own := [("k", 3)]) (g := gName 3) rfl sc_law_ascending.nd (pi_range1 (by rfl) T.z_range (pa_cons (pv 1) pa_nil)) (blkOk_by (N := N_law_ascending) (sc := defScope s_law_ascending) (by decide +kernel)) (fun _ _ _ _ _ => (pg_name (i := 3) sc_law_ascending.nd rfl (Or.inl rfl))) (fun _ _ _ _ _ => (pts_one (pt_cmpR op_lt (C8.pe_c C_law_take hr (by decide) (by rfl) (pa_cons (pv 0) (pa_cons pe_int pa_nil))) (pv 2) (nomark _)))) (fun _ _ _ _ _ => (pv 3))))), ?_⟩
    refine ⟨_, rfl, _, rfl, by omega, by omega, fun D hD => ?_⟩
    have nDd : D ≠ d := fun z => by obtain ⟨o, y⟩ := hd; rw [← z, hD] at y; cases y
    refine lc_range (lo := 0) (n := n.toNat) (fun i H' => ∃ xs : List Int, Kp d H H' ∧ Drw H' d ∧ H' D = some (.lst (xs.map V.int)) ∧ Asc (i : Nat) xs ∧ xs.length ≤ i)
      ⟨[], Kp.new hD, hd.new hD, upd_same, asc_nil _, Nat.le_refl _⟩ ?_ ?_
    · rintro i H1 hi ⟨xs, k1, d1, e1, hA, xl⟩
      refine ⟨rfl, _, rfl, d, 10, rfl, d1, by decide, fun u us u0 u1 => ?_⟩
      have e2 : (upd H1 d (.lst (us.map V.int))) D = some (.lst (xs.map V.int)) := by rw [upd_ne nDd]; exact e1
      have k2 : Kp d H (upd H1 d (.lst (us.map V.int))) := k1.trans Kp.own
      have d2 : Drw (upd H1 d (.lst (us.map V.int))) d := Drw.own
      generalize upd H1 d (.lst (us.map V.int)) = H2 at *
      refine ⟨_, rfl, _, _, rfl, rfl, _, rfl, ite2 (fun c => ?_) (fun c => ⟨xs, k2, d2, e2, asc_mono hA (by omega), by omega⟩)⟩
      refine ⟨_, rfl, _, e2, lenI (by omega), xs ++ [(0 : Int) + (i : Int)], ?_, ?_, ?_, asc_snoc hA, by rw [List.length_append]; show xs.length + 1 ≤ i + 1; omega⟩
      · intro b o nb hb
        rw [upd_ne (ne_of_none hb hD)]
        exact k2 _ _ nb hb
      · obtain ⟨o, y⟩ := d2
        exact ⟨o, by rw [upd_ne nDd.symm]; exact y⟩
      · rw [upd_same, List.map_append]
        rfl
    · rintro H1 ⟨xs, k1, d1, e1, hA, xl⟩
      exact q H1 D xs k1 d1 hD e1 (asc_mono hA (by omega)) (by omega)
def Cpy (H H' : Hp) (r' : Addr) (as' : List Addr) (rows : List (List Int)) : Prop := Same H H' ∧ LL H' r' as' rows ∧ (∀ b ∈ as', H b = none) ∧ H r' = none ∧ r' ∉ as'
/-- one more row of a copy -/
theorem cpy_step {H H' : Hp} {D t : Addr} {bs : List Addr} {rs : List (List Int)} {row : List Int} (h : Cpy H H' D bs rs) (ht : H' t = none) : Cpy H (upd (upd H' t (.lst (row.map V.int))) D (.lst ((bs ++ [t]).map V.ref))) D (bs ++ [t]) (rs ++ [row]) := by
  obtain ⟨s1, ⟨e1, R1⟩, n1, d1, m1⟩ := h
  have nt : D ≠ t := fun z => by rw [z, ht] at e1; cases e1
  refine ⟨fun b o hb => ?_, ⟨upd_same, ?_⟩, fun b hb => ?_, d1, fun z => ?_⟩
  · rw [upd_ne (ne_of_none hb d1), upd_ne (ne_of_none (s1 _ _ hb) ht)]
    exact s1 _ _ hb
  · refine RowsA.snoc ?_ (My.RowsA.drop m1 (R1.same (same_new ht)))
    rw [upd_ne nt.symm, upd_same]
  · rcases List.mem_append.mp hb with z | z
    · exact n1 b z
    · rw [List.mem_singleton.mp z]
      exact s1.free ht
  · rcases List.mem_append.mp z with y | y
    · exact m1 y
    · exact nt (List.mem_singleton.mp y)
theorem cpy_zero {H : Hp} {D : Addr} (hD : H D = none) : Cpy H (upd H D (.lst [])) D [] [] := ⟨same_new hD, ⟨upd_same, True.intro⟩, (by simp), hD, by simp⟩
def spFlat : Sp := fun vs H Q _ => ∃ (r : Addr) (as : List Addr) (rows : List (List Int)), vs = [.ref r] ∧ LL H r as rows ∧ rows.length ≤ 1000 ∧ ∀ (H' : Hp) (r' : Addr) (as' : List Addr), Cpy H H' r' as' rows → Q (.ref r') H'
theorem cal_flat (T : Txt K mg) : C8.Cal P w K mg base 1 "_law_flat" spFlat [] := by
  obtain ⟨f, fd, F, hm, hb⟩ := T.h_law_flat
  refine ⟨f, fd, _, [], F.ok sc_law_flat (fun vs H Q E h => ?_) (fun cdv A outer s H vs Q E hr h => ?_), hm, F.kp, hb, .nil⟩
  · obtain ⟨r, as, rows, rfl, _⟩ := h
    rfl
  · obtain ⟨r, as, rows, rfl, hL, b1, q⟩ := h
    refine ⟨_, (pss_one
      (ps_ret (pe_lc (own := [("row", 1)]) (g := gName 1) (tt := tYes) rfl sc_law_flat.nd (pi_list (pv 0)) (blkOk_by (N := N_law_flat) (sc := defScope s_law_flat) (by decide +kernel)) (fun _ _ _ _ _ => (pg_name (i := 1) sc_law_flat.nd rfl (Or.inl rfl))) (fun _ _ _ _ _ => pts_nil) (fun _ _ _ _ _ => (pe_callTy (call_list_ofK (K := K) rfl) (by rfl) T.z_list (by decide +kernel) (pa_cons (pv 1) pa_nil)))))), ?_⟩
    have hl2 : (as.map V.ref).length = rows.length := by rw [List.length_map, hL.2.len]
    refine ⟨_, rfl, r, rfl, ⟨_, .of hL.1⟩, fun D hD => lc_list (K := K) (a := r) (xs := as.map V.ref) (fun i H' => ∃ bs, Cpy H H' D bs (rows.take i))
      ⟨[], cpy_zero hD⟩ (fun i H' _ ⟨_, z, _⟩ => .of (z _ _ hL.1)) ?_ ?_⟩
    · rintro i v H2 hi ⟨bs, c2⟩
      obtain ⟨a, ha, rfl⟩ := refs_get hi
      obtain ⟨row, hrow, sr⟩ := hL.2.get ha
      have hil : i < rows.length := (List.getElem?_eq_some_iff.mp hrow).1
      have bl := c2.2.1.2.len
      rw [List.length_take] at bl
      have nD : ∀ t, H2 t = none → D ≠ t := fun t ht z => by
        have := c2.2.1.1
        rw [z, ht] at this
        cases this
      refine ⟨rfl, _, rfl, a, _, rfl, .inl (.of (c2.1 _ _ sr)), fun t ht => ⟨_, by rw [upd_ne (nD t ht)]; exact c2.2.1.1, by rw [List.length_map]; exact Nat.lt_of_le_of_lt (show bs.length ≤ 1000 by omega) (by decide), bs ++ [t], ?_⟩⟩
      rw [take_get hrow]
      have := cpy_step (row := row) c2 ht
      rw [List.map_append] at this
      exact this
    · rintro H2 ⟨bs, c2⟩
      rw [hl2, List.take_length] at c2
      exact q _ _ _ c2
def spGame : Sp := fun vs H Q _ => ∃ (d : Addr) (m : Int), vs = [.ref d, .int m] ∧ Drw H d ∧ 1 ≤ m ∧ m ≤ 40 ∧
  ∀ (H' : Hp) (t o p r : Addr) (as : List Addr) (ow ps : List Int) (c : List (List Int)), Kp d H H' → Drw H' d → H' t = some (.tup [.ref o, .ref p, .ref r]) → H' o = some (.lst (ow.map V.int)) → H' p = some (.lst (ps.map V.int)) → LL H' r as c → o ≠ d → p ≠ d → r ≠ d → (∀ a ∈ as, a ≠ d) → Vg ow ps c → (c.length : Int) ≤ m → Q (.ref t) H'
theorem cal_game (T : Txt K mg) : C8.Cal P w K mg base 3 "_law_game" spGame [] := by
  have C_law_take : C8.Cal P w K mg base 1 "_law_take" spTake [] := cal_take T
  have C_law_ascending : C8.Cal P w K mg base 2 "_law_ascending" spAscd [] := cal_ascd T
  obtain ⟨f, fd, F, hm, hb⟩ := T.h_law_game
  refine ⟨f, fd, _, [], F.ok sc_law_game (fun vs H Q E h => ?_) (fun cdv A outer s H vs Q E hr h => ?_), hm, F.kp, hb, .nil⟩
  · obtain ⟨d, m, rfl, _⟩ := h
    rfl
  · obtain ⟨d, m, rfl, hd, m1, m2, q⟩ := h
    refine ⟨_, (pss_cons
      (ps_set (i := 2) sc_law_game.nd rfl (Or.inl rfl) (pe_op op_add pe_int (C8.pe_c C_law_take hr (by decide) (by rfl) (pa_cons (pv 0) (pa_cons (pv 1) pa_nil)))))
      (pss_cons
      (ps_set (i := 3) sc_law_game.nd rfl (Or.inr rfl) (pe_op op_add pe_int (C8.pe_c C_law_take hr (by decide) (by rfl) (pa_cons (pv 0) (pa_cons pe_int pa_nil)))))
      (pss_cons
      (ps_setLc (i := 4) (own := [("k", 8)]) (g := gName 8) (tt := tYes) rfl sc_law_game.nd rfl rfl (sw_true rfl rfl rfl (by decide +kernel)) (pi_range1 (by rfl) T.z_range (pa_cons (pv 2) pa_nil)) (blkOk_by (N := N_law_game) (sc := defScope s_law_game) (by decide +kernel)) (fun _ _ _ _ _ => (pg_name (i := 8) sc_law_game.nd rfl (Or.inl rfl))) (fun _ _ _ _ _ => pts_nil) (fun _ _ _ _ _ => (C8.pe_c C_law_take hr (by decide) (by rfl) (pa_cons (pv 0) (pa_cons pe_int pa_nil)))))
      (pss_cons
      (ps_setLc (i := 5) (own := [("k", 8)]) (g := gName 8) (tt := tYes) rfl sc_law_game.nd rfl rfl (sw_true rfl rfl rfl (by decide +kernel)) (pi_range1 (by rfl) T.z_range (pa_cons (pv 2) pa_nil)) (blkOk_by (N := N_law_game) (sc := defScope s_law_game) (by decide +kernel)) (fun _ _ _ _ _ => (pg_name (i := 8) sc_law_game.nd rfl (Or.inl rfl))) (fun _ _ _ _ _ => pts_nil) (fun _ _ _ _ _ => (C8.pe_c C_law_take hr (by decide) (by rfl) (pa_cons (pv 0) (pa_cons (pv 3) pa_nil)))))
      (pss_cons
      (ps_set (i := 6) sc_law_game.nd rfl (Or.inl rfl) (pe_op op_add pe_int (C8.pe_c C_law_take hr (by decide) (by rfl) (pa_cons (pv 0) (pa_cons pe_int pa_nil)))))
      (pss_cons
      (ps_set (i := 7) sc_law_game.nd rfl (Or.inl rfl) (pe_lst pa_nil))
      (pss_cons
      (ps_for PassesOwn.never rfl (pi_range1 (by rfl) T.z_range (pa_cons (pv 2) pa_nil)) (pg_name (i := 8) sc_law_game.nd rfl (.inl rfl)) (pss_cons
      (ps_set (i := 9) sc_law_game.nd rfl (Or.inl rfl) (C8.pe_c C_law_ascending hr (by decide) (by rfl) (pa_cons (pv 0) (pa_cons (pv 2) (pa_cons (pv 6) pa_nil)))))
      (C8.pss_cut
      (ps_if (pt_cmpR op_eq (pe_callB (call_lenK (K := K) rfl) (by rfl) T.z_len PySem.boot_len (pa_cons (pv 9) pa_nil)) pe_int (nomark _)) (pss_one
      (ps_set (i := 9) sc_law_game.nd rfl (Or.inl rfl) (pe_lst (pa_cons (C8.pe_c C_law_take hr (by decide) (by rfl) (pa_cons (pv 0) (pa_cons (pv 2) pa_nil))) pa_nil)))) pss_nil)
      (pss_one
      (ps_expr (pe_bm PySem.F.plainAttrs_list PySem.F.slot_list_append PySem.F.type_list_append mt_append (pv 7) (pa_cons (pv 9) pa_nil)))))))
      (pss_one
      (ps_ret (pe_tup (pa_cons (pv 4) (pa_cons (pv 5) (pa_cons (pv 7) pa_nil))))))))))))), ?_⟩
    refine ⟨_, rfl, _, rfl, d, m, rfl, hd, by omega, fun cn ds c0 c1 => ?_⟩
    have d1 : Drw (upd H d (.lst (ds.map V.int))) d := Drw.own
    have k1 : Kp d H (upd H d (.lst (ds.map V.int))) := Kp.own
    generalize upd H d (.lst (ds.map V.int)) = H1 at d1 k1 ⊢
    refine ⟨_, _, rfl, rfl, ?_⟩
    show gName 2 (V.int (1 + cn)) _ _ _
    obtain ⟨n, hn⟩ : ∃ n : Nat, 1 + cn = (n : Int) := ⟨(1 + cn).toNat, by omega⟩
    rw [hn]
    have hn0 : 0 < n := by omega
    have hnm : (n : Int) ≤ m := by omega
    refine ⟨_, rfl, d, 5, rfl, d1, by decide, fun tp ds2 t0 t1 => ?_⟩
    have d2 : Drw (upd H1 d (.lst (ds2.map V.int))) d := Drw.own
    have k2 : Kp d H (upd H1 d (.lst (ds2.map V.int))) := k1.trans Kp.own
    generalize upd H1 d (.lst (ds2.map V.int)) = H2 at d2 k2 ⊢
    refine ⟨_, _, rfl, rfl, ?_⟩
    show gName 3 (V.int (1 + tp)) _ _ _
    have ht1 : 1 ≤ 1 + tp := by omega
    generalize 1 + tp = top at ht1 ⊢
    clear k1 d1
    -- owners
    refine ⟨_, rfl, _, rfl, by omega, by omega, fun O hO => ?_⟩
    have nOd : O ≠ d := fun z => by obtain ⟨o, y⟩ := d2; rw [← z, hO] at y; cases y
    rw [Int.toNat_natCast]
    refine lc_range (lo := 0) (n := n) (fun i H' => ∃ xs : List Int, Kp d H2 H' ∧ Drw H' d ∧ H' O = some (.lst (xs.map V.int)) ∧ xs.length = i ∧ ∀ z ∈ xs, 0 ≤ z ∧ z ≤ 1)
      ⟨[], Kp.new hO, d2.new hO, upd_same, rfl, by simp⟩ ?_ ?_
    · rintro i H3 hi ⟨xs, k3, d3, e3, xl, hx⟩
      refine ⟨rfl, _, rfl, d, 2, rfl, d3, by decide, fun u us u0 u1 => ?_⟩
      have e4 : (upd H3 d (.lst (us.map V.int))) O = some (.lst (xs.map V.int)) := by rw [upd_ne nOd]; exact e3
      have k4 : Kp d H2 (upd H3 d (.lst (us.map V.int))) := k3.trans Kp.own
      have d4 : Drw (upd H3 d (.lst (us.map V.int))) d := Drw.own
      generalize upd H3 d (.lst (us.map V.int)) = H4 at e4 k4 d4 ⊢
      refine ⟨_, e4, lenI (by omega), xs ++ [u], fun b o nb hb => ?_, ?_, by rw [upd_same, List.map_append]; rfl, by rw [List.length_append, xl]; rfl, fun z hz => ?_⟩
      · rw [upd_ne (ne_of_none hb hO)]
        exact k4 _ _ nb hb
      · obtain ⟨o, y⟩ := d4
        exact ⟨o, by rw [upd_ne nOd.symm]; exact y⟩
      · rcases List.mem_append.mp hz with y | y
        · exact hx z y
        · rw [List.mem_singleton.mp y]; omega
    rintro H3 ⟨ow, k3, d3, eO, ol, ho⟩
    have k03 := k2.trans k3
    clear k2 d2 k3 hO
    -- priorities
    refine ⟨_, rfl, _, rfl, by omega, by omega, fun O2 hO2 => ?_⟩
    have nPd : O2 ≠ d := fun z => by obtain ⟨o, y⟩ := d3; rw [← z, hO2] at y; cases y
    rw [Int.toNat_natCast]
    refine lc_range (lo := 0) (n := n) (fun i H' => ∃ xs : List Int, Kp d H3 H' ∧ Drw H' d ∧ H' O2 = some (.lst (xs.map V.int)) ∧ xs.length = i ∧ ∀ z ∈ xs, 0 ≤ z)
      ⟨[], Kp.new hO2, d3.new hO2, upd_same, rfl, by simp⟩ ?_ ?_
    · rintro i H4 hi ⟨xs, k4, d4, e4, xl, hx⟩
      refine ⟨rfl, _, rfl, _, rfl, d, top, rfl, d4, by omega, fun u us u0 u1 => ?_⟩
      have e5 : (upd H4 d (.lst (us.map V.int))) O2 = some (.lst (xs.map V.int)) := by rw [upd_ne nPd]; exact e4
      have k5 : Kp d H3 (upd H4 d (.lst (us.map V.int))) := k4.trans Kp.own
      have d5 : Drw (upd H4 d (.lst (us.map V.int))) d := Drw.own
      generalize upd H4 d (.lst (us.map V.int)) = H5 at e5 k5 d5 ⊢
      refine ⟨_, e5, lenI (by omega), xs ++ [u], fun b o nb hb => ?_, ?_, by rw [upd_same, List.map_append]; rfl, by rw [List.length_append, xl]; rfl, fun z hz => ?_⟩
      · rw [upd_ne (ne_of_none hb hO2)]
        exact k5 _ _ nb hb
      · obtain ⟨o, y⟩ := d5
        exact ⟨o, by rw [upd_ne nPd.symm]; exact y⟩
      · rcases List.mem_append.mp hz with y | y
        · exact hx z y
        · rw [List.mem_singleton.mp y]; exact u0
    rintro H4 ⟨ps, k4, d4, eP, pl, hp⟩
    have k04 := k03.trans k4
    have eO4 := k4 _ _ nOd eO
    clear k03 d3 k4 hO2 eO
    -- share
    refine ⟨_, rfl, d, 4, rfl, d4, by decide, fun sh ds3 sh0 sh1 => ?_⟩
    have d5 : Drw (upd H4 d (.lst (ds3.map V.int))) d := Drw.own
    have k5 : Kp d H4 (upd H4 d (.lst (ds3.map V.int))) := Kp.own
    generalize upd H4 d (.lst (ds3.map V.int)) = H5 at d5 k5 ⊢
    have k05 := k04.trans k5
    have eO5 := k5 _ _ nOd eO4
    have eP5 := k5 _ _ nPd eP
    clear k04 d4 eO4 eP k5
    refine ⟨_, _, rfl, rfl, ?_⟩
    show gName 6 (V.int (2 + sh)) _ _ _
    generalize 2 + sh = share
    refine ⟨Nat.zero_le _, fun R hR => ?_⟩
    have nRd : R ≠ d := fun z => by obtain ⟨o, y⟩ := d5; rw [← z, hR] at y; cases y
    refine ⟨_, rfl, _, rfl, by omega, by omega, ?_⟩
    rw [Int.toNat_natCast]
    refine for_range (lo := 0) (n := n) (fun i σ H' => ∃ (v8 v9 : Option V) (as : List Addr) (c : List (List Int)), σ = [some (.ref d), some (.int m), some (.int (n : Int)), some (.int top), some (.ref O), some (.ref O2), some (.int share), some (.ref R), v8, v9] ∧ Kp d H5 H' ∧ Drw H' d ∧ LL H' R as c ∧ c.length = i ∧ (∀ a ∈ as, a ≠ d ∧ a ≠ R) ∧ ∀ r ∈ c, r ≠ [] ∧ Asc (n : Int) r)
      ⟨_, _, [], [], rfl, Kp.new hR, d5.new hR, ⟨upd_same, True.intro⟩, rfl, by simp, by simp⟩ ?_ ?_
    · rintro i σ H6 hi ⟨v8, v9, as, c, rfl, k6, d6, hL, cl, ha, hc⟩
      refine ⟨_, rfl, _, rfl, _, rfl, d, (n : Int), share, rfl, d6, by omega, by omega, fun H7 t xs k7 d7 ht e7 hA xl => ?_⟩
      have keepLL : ∀ {X Y : Hp}, LL X R as c → Kp d X Y → LL Y R as c := fun {X Y} h k => ⟨k _ _ nRd h.1, RowsA.keep (fun b o hb hx => k _ _ (ha b hb).1 hx) h.2⟩
      have hL7 := keepLL hL k7
      have k57 := k6.trans k7
      have ntd : t ≠ d := fun z => by obtain ⟨o, y⟩ := d6; rw [z] at ht; rw [ht] at y; cases y
      have ntR : t ≠ R := fun z => by rw [z, hL.1] at ht; cases ht
      clear hL k7 k6 d6
      refine ⟨fun σ H' => ∃ (row : List Int) (t' : Addr), σ = [some (.ref d), some (.int m), some (.int (n : Int)), some (.int top), some (.ref O), some (.ref O2), some (.int share), some (.ref R), some (.int (0 + (i : Int))), some (.ref t')] ∧ Kp d H5 H' ∧ Drw H' d ∧ LL H' R as c ∧ H' t' = some (.lst (row.map V.int)) ∧ t' ≠ d ∧ t' ≠ R ∧ row ≠ [] ∧ Asc (n : Int) row, ?_, ?_⟩
      · refine ⟨_, rfl, t, _, rfl, .inl (.of e7), rfl, _, rfl, ite_eq (fun y => ?_) (fun y => ⟨xs, t, rfl, k57, d7, hL7, e7, ntd, ntR, fun z => y (by rw [z]; rfl), hA⟩)⟩
        refine ⟨_, rfl, _, rfl, d, (n : Int), rfl, d7, by omega, fun u us u0 u1 => ?_⟩
        have k8 : Kp d H7 (upd H7 d (.lst (us.map V.int))) := Kp.own
        have d8 : Drw (upd H7 d (.lst (us.map V.int))) d := Drw.own
        have hL8 := keepLL hL7 k8
        generalize upd H7 d (.lst (us.map V.int)) = H8 at k8 d8 hL8 ⊢
        refine ⟨by show 1 ≤ sizeLine; decide, fun t2 n2 => ?_⟩
        have s9 := same_new (o := .lst [.int u]) n2
        exact ⟨[u], t2, rfl, (k57.trans k8).trans (fun b o _ hb => s9 _ _ hb), d8.same s9, hL8.same s9, upd_same, (fun z => by obtain ⟨o, y⟩ := d8; rw [z] at n2; rw [n2] at y; cases y), (fun z => by rw [z, hL8.1] at n2; cases n2), by simp, ⟨by simp, fun x hx => by rw [List.mem_singleton.mp hx]; exact ⟨u0, u1⟩⟩⟩
      · rintro σ H8 ⟨row, t', rfl, k8, d8, hL8, e8, nt1, nt2, hne, hasc⟩
        refine ⟨_, rfl, .inl ⟨rfl, _, .of hL8.1⟩, _, rfl, R, _, _, rfl, rfl, hL8.1, by rw [List.length_map, hL8.2.len]; exact Nat.lt_of_le_of_lt (show c.length ≤ 1000 by omega) (by decide), ?_⟩
        have hRm : R ∉ as := fun z => (ha R z).2 rfl
        refine ⟨_, _, as ++ [t'], c ++ [row], rfl, fun b o nb hb => ?_, ?_, ⟨by rw [upd_same, List.map_append]; rfl, RowsA.snoc (by rw [upd_ne nt2]; exact e8) (My.RowsA.drop hRm hL8.2)⟩, by rw [List.length_append, cl]; rfl, fun b hb => ?_, fun r hr => ?_⟩
        · rw [upd_ne (ne_of_none hb hR)]
          exact k8 _ _ nb hb
        · obtain ⟨o, y⟩ := d8
          exact ⟨o, by rw [upd_ne nRd.symm]; exact y⟩
        · rcases List.mem_append.mp hb with y | y
          · exact ha b y
          · rw [List.mem_singleton.mp y]; exact ⟨nt1, nt2⟩
        · rcases List.mem_append.mp hr with y | y
          · exact hc r y
          · rw [List.mem_singleton.mp y]; exact ⟨hne, hasc⟩
    rintro σ H6 ⟨v8, v9, as, c, rfl, k6, d6, hL, cl, ha, hc⟩
    refine ⟨_, rfl, _, rfl, _, rfl, by show 3 ≤ sizeLine; decide, fun t ht => ?_⟩
    have s7 := same_new (o := .tup [.ref O, .ref O2, .ref R]) ht
    exact q _ t O O2 R as ow ps c ((k05.trans k6).trans (fun b o _ hb => s7 _ _ hb)) (d6.same s7) upd_same (s7 _ _ (k6 _ _ nOd eO5)) (s7 _ _ (k6 _ _ nPd eP5)) (hL.same s7) nOd nPd nRd (fun a h => (ha a h).1) ⟨fun z => by rw [z] at cl; simp at cl; omega, by omega, by omega, ho, hp, by rw [cl]; exact hc⟩ (by omega)
theorem same_madeG {C x dx : Addr} {H1 H2 : Hp} (hx : H1 x = none) (hd : H1 dx = none) (k : Kp x (upd (upd H1 dx (.own x)) x (.ins C dx [])) H2) : Same H1 H2 := fun b o hb => by
  have n1 : b ≠ x := fun z => by rw [z, hx] at hb; cases hb
  have n2 : b ≠ dx := fun z => by rw [z, hd] at hb; cases hb
  refine k _ _ n1 ?_
  rw [upd_ne n1, upd_ne n2]
  exact hb
theorem same_freshG {C x dx : Addr} {H1 : Hp} (hx : H1 x = none) (hd : H1 dx = none) : Same H1 (upd (upd H1 dx (.own x)) x (.ins C dx [])) := same_madeG hx hd (Kp.refl _ _)
def spGOut (C : Addr) : Sp := fun vs H Q _ => ∃ (o p r : Addr) (as : List Addr) (ow ps : List Int) (c : List (List Int)), vs = [.ref o, .ref p, .ref r] ∧ H o = some (.lst (ow.map V.int)) ∧ H p = some (.lst (ps.map V.int)) ∧ LL H r as c ∧ ow.length ≤ 1000 ∧ ps.length ≤ 1000 ∧ c.length ≤ 1000 ∧ (∀ q ∈ c, q.length ≤ 1000) ∧
  ∀ (v : V) (H' : Hp), Same H H' → ((¬ Vg ow ps c ∧ v = .non) ∨ (Vg ow ps c ∧ ∃ x, v = .ref x ∧ GmeAt C H' x ow ps c)) → Q v H'
theorem cal_gout {cI C fI : Addr} {fdI : FuncData} (T : Txt K mg) (eI : ErrC K mg "InvalidGame" cI) (PC : GmeC K C) (hM : Mk K C fI) (gC : mg "Game" = some (.ref C)) (F0 : L2.Fun K "__init__" "Game.__init__" s_Game_init fI fdI) (hB : Binds K fdI ["self", "owners", "priorities", "moves"] []) :
    C8.Cal P w K mg base 4 "_law_outcome" (spGOut C) [] := by
  have MK : MakX P w K mg base 2 "Game" C (spInitG C cI) := ⟨fI, fdI, _, hM, ok_initG T eI PC F0, gC, hB⟩
  obtain ⟨f, fd, F, hm, hb⟩ := T.h_law_outcome
  refine ⟨f, fd, _, [], F.ok sc_law_outcome (fun vs H Q E h => ?_) (fun cdv A outer s H vs Q E hr h => ?_), hm, F.kp, hb, .nil⟩
  · obtain ⟨o, p, r, as, ow, ps, c, rfl, _⟩ := h
    rfl
  · obtain ⟨o, p, r, as, ow, ps, c, rfl, ho, hp, hL, b1, b2, b3, b4, q⟩ := h
    refine ⟨_, (pss_one
      (ps_try_only rfl rfl ⟨rfl, by decide, .inl eI.g⟩ takes0 (fun W pn xe tk _ => (pss_one (ps_ret (pe_makeX MK hr (by decide) tk (by rfl) (pa_cons (pv 0) (pa_cons (pv 1) (pa_cons (pv 2) pa_nil))))))) (fun a oe cls d pn hz hf => (pss_one
      (ps_ret pe_non))))), ?_⟩
    refine ⟨_, rfl, _, rfl, _, rfl, fun y dy hy hdy hne => ?_⟩
    have s3 := same_freshG (C := C) hy hdy
    refine ⟨y, o, p, r, dy, ow, ps, as, c, rfl, upd_same, s3 _ _ ho, s3 _ _ hp, ⟨s3 _ _ hL.1, hL.2.same s3⟩, b1, b2, b3, b4, fun c => ?_, fun c H3 k3 P3 => ⟨rfl, ?_⟩⟩
    · exact ⟨true, eI.me, fun _ a ha => q _ _ s3 (.inl ⟨c, rfl⟩), fun z => by cases z⟩
    · exact q _ _ (same_madeG hy hdy k3) (.inr ⟨c, y, rfl, P3⟩)
def spGDist (C : Addr) : Sp := fun vs H Q _ => ∃ (x ta : Addr) (pl : Int) (ow ps ts : List Int) (c : List (List Int)), vs = [.ref x, .int pl, .ref ta] ∧ GmeAt C H x ow ps c ∧ Vg ow ps c ∧ c.length ≤ 50 ∧ H ta = some (.lst (ts.map V.int)) ∧ ts.length ≤ 50 ∧
  (¬ (∀ t ∈ ts, 0 ≤ t ∧ t < (c.length : Int)) → Q .non H) ∧
  ((∀ t ∈ ts, 0 ≤ t ∧ t < (c.length : Int)) → ∀ (H' : Hp) (D : Addr) (f : Nat → Int), Same H H' → ArrI H' D c.length f → (∀ k, k < c.length → Bf.Lev (ownN ow pl) (mvN c) (fun t => (t : Int) ∈ ts) k (f k)) → (∀ k, k < c.length → f k ≤ (c.length : Int)) → Q (.ref D) H')
theorem cal_gdist {cL C : Addr} (T : Txt K mg) (eL : ErrC K mg "InvalidPosition" cL) (PC : GmeC K C) : C8.Cal P w K mg base 4 "_law_distances" (spGDist C) [] := by
  have X_distances : CalX P w K mg base 3 "distances" (spDist C cL w) := cal_dist T eL PC
  obtain ⟨f, fd, F, hm, hb⟩ := T.h_law_distances
  refine ⟨f, fd, _, [], F.ok sc_law_distances (fun vs H Q E h => ?_) (fun cdv A outer s H vs Q E hr h => ?_), hm, F.kp, hb, .nil⟩
  · obtain ⟨x, ta, pl, ow, ps, ts, c, rfl, _⟩ := h
    rfl
  · obtain ⟨x, ta, pl, ow, ps, ts, c, rfl, hG, hV, b1, hta, b2, q1, q2⟩ := h
    refine ⟨_, (pss_one
      (ps_try_only rfl rfl ⟨rfl, by decide, .inl eL.g⟩ takes0 (fun W pn xe tk _ => (pss_one (ps_ret (pe_cx X_distances hr (by decide) tk (by rfl) (pa_cons (pv 0) (pa_cons (pv 1) (pa_cons (pv 2) pa_nil))))))) (fun a oe cls d pn hz hf => (pss_one
      (ps_ret pe_non))))), ?_⟩
    exact ⟨_, rfl, _, rfl, _, rfl, x, ta, pl, ow, ps, ts, c, rfl, hG, hV, b1, hta, b2, fun k => ⟨true, eL.me, fun _ a ha => q1 k, fun y => by cases y⟩, q2⟩
theorem cut_drop (xs : List V) (n : Nat) : cutV xs (some (n : Int)) none = xs.drop n := by
  unfold cutV
  rw [HT.sIx_none, HT.sIx_nat]
  rcases Nat.le_total n xs.length with c | c
  · rw [Nat.min_eq_left c, List.take_of_length_le (by rw [List.length_drop]; exact Nat.le_refl _)]
  · rw [Nat.min_eq_right c, List.drop_of_length_le (Nat.le_refl _), List.drop_of_length_le c, List.take_nil]
theorem cut_take (xs : List V) (n : Nat) : cutV xs none (some (n : Int)) = xs.take n := by
  unfold cutV
  rw [HT.sIx_none, HT.sIx_nat, List.drop_zero, Nat.sub_zero]
  rcases Nat.le_total n xs.length with c | c
  · rw [Nat.min_eq_left c]
  · rw [Nat.min_eq_right c, List.take_of_length_le c, List.take_of_length_le (Nat.le_refl _)]
theorem nd_of {H : Hp} {b d : Addr} (hd : Drw H d) (h : H b = none) : b ≠ d := fun z => by
  obtain ⟨o, y⟩ := hd
  rw [← z, h] at y
  cases y
theorem rows_app {H : Hp} : ∀ {as bs : List Addr} {c g : List (List Int)}, RowsA .lst H as c → RowsA .lst H bs g → RowsA .lst H (as ++ bs) (c ++ g)
  | [], _, [], _, _, h => h
  | _ :: _, _, _ :: _, _, h, h' => ⟨h.1, rows_app h.2 h'⟩
  | [], _, _ :: _, _, h, _ => h.elim
  | _ :: _, _, [], _, h, _ => h.elim
theorem rows_take {H : Hp} : ∀ {as : List Addr} {c : List (List Int)} (k : Nat), RowsA .lst H as c → RowsA .lst H (as.take k) (c.take k)
  | _, _, 0, _ => True.intro
  | [], [], _ + 1, _ => True.intro
  | _ :: _, _ :: _, k + 1, h => ⟨h.1, rows_take k h.2⟩
  | [], _ :: _, _ + 1, h => h.elim
  | _ :: _, [], _ + 1, h => h.elim
theorem rows_drop {H : Hp} : ∀ {as : List Addr} {c : List (List Int)} (k : Nat), RowsA .lst H as c → RowsA .lst H (as.drop k) (c.drop k)
  | _, _, 0, h => h
  | [], [], _ + 1, _ => True.intro
  | _ :: _, _ :: _, k + 1, h => rows_drop k h.2
  | [], _ :: _, _ + 1, h => h.elim
  | _ :: _, [], _ + 1, h => h.elim
theorem sl_toV {K : PySem.W.Frag} {H : Hp} {a : Addr} {xs : List V} {k : Nat} {Q : VK} (h : H a = some (.lst xs)) (q : ∀ (H' : Hp) (b : Addr), Same H H' → H b = none → H' b = some (.lst (xs.take k)) → Q (.ref b) H') : rSlL K (.ref a) none (some (k : Int)) H Q :=
  ⟨a, _, rfl, .of h, fun b hb => by rw [cut_take]; exact q _ b (same_new hb) hb upd_same⟩
theorem sl_frV {K : PySem.W.Frag} {H : Hp} {a : Addr} {xs : List V} {k : Nat} {Q : VK} (h : H a = some (.lst xs)) (q : ∀ (H' : Hp) (b : Addr), Same H H' → H' b = some (.lst (xs.drop k)) → Q (.ref b) H') : rSlL K (.ref a) (some (k : Int)) none H Q :=
  ⟨a, _, rfl, .of h, fun b hb => by rw [cut_drop]; exact q _ b (same_new hb) upd_same⟩
theorem cat_V {H : Hp} {a b : Addr} {xs ys : List V} {Q : VK} (h : H a = some (.lst xs)) (g : H b = some (.lst ys)) (hl : xs.length + ys.length ≤ 1000) (q : ∀ (H' : Hp) (e : Addr), Same H H' → H e = none → H' e = some (.lst (xs ++ ys)) → Q (.ref e) H') : rCat (.ref a) (.ref b) H Q :=
  ⟨a, b, _, _, rfl, rfl, h, g, Nat.le_trans hl (by decide), fun e he => q _ e (same_new he) he upd_same⟩
theorem mk_V {H : Hp} {o : HO} {Q : Hp → Addr → Prop} (q : ∀ (H' : Hp) (t : Addr), Same H H' → H t = none → H' t = some o → Q H' t) : ∀ t, H t = none → Q (upd H t o) t := fun t ht => q _ t (same_new ht) ht upd_same
def spGSpoil : Sp := fun vs H Q _ => ∃ (d o p r : Addr) (as : List Addr) (ow ps : List Int) (c : List (List Int)), vs = [.ref d, .ref o, .ref p, .ref r] ∧ Drw H d ∧ H o = some (.lst (ow.map V.int)) ∧ H p = some (.lst (ps.map V.int)) ∧ LL H r as c ∧ o ≠ d ∧ p ≠ d ∧ r ≠ d ∧ (∀ a ∈ as, a ≠ d) ∧ Vg ow ps c ∧ c.length ≤ 40 ∧ (∀ q ∈ c, q.length ≤ 40) ∧
  ∀ (H' : Hp) (t o' p' r' : Addr) (as' : List Addr) (ow' ps' : List Int) (c' : List (List Int)), H' t = some (.tup [.ref o', .ref p', .ref r']) → H' o' = some (.lst (ow'.map V.int)) → H' p' = some (.lst (ps'.map V.int)) → LL H' r' as' c' → ow'.length ≤ 100 → ps'.length ≤ 100 → c'.length ≤ 100 → (∀ q ∈ c', q.length ≤ 100) → ¬ Vg ow' ps' c' → Q (.ref t) H'
theorem cal_gspoil (T : Txt K mg) : C8.Cal P w K mg base 2 "_law_spoil" spGSpoil [] := by
  have C_law_take : C8.Cal P w K mg base 1 "_law_take" spTake [] := cal_take T
  obtain ⟨f, fd, F, hm, hb⟩ := T.h_law_spoil
  refine ⟨f, fd, _, [], F.ok sc_law_spoil (fun vs H Q E h => ?_) (fun cdv A outer s H vs Q E hr h => ?_), hm, F.kp, hb, .nil⟩
  · obtain ⟨d, o, p, r, as, ow, ps, c, rfl, _⟩ := h
    rfl
  · obtain ⟨d, o, p, r, as, ow, ps, c, rfl, hd, ho, hp, hL, n1, n2, n3, n4, hV, b1, b2, q⟩ := h
    refine ⟨_, (pss_cons
      (ps_set (i := 4) sc_law_spoil.nd rfl (Or.inl rfl) (C8.pe_c C_law_take hr (by decide) (by rfl) (pa_cons (pv 0) (pa_cons pe_int pa_nil))))
      (pss_cons
      (ps_set (i := 5) sc_law_spoil.nd rfl (Or.inl rfl) (C8.pe_c C_law_take hr (by decide) (by rfl) (pa_cons (pv 0) (pa_cons (pe_callB (call_lenK (K := K) rfl) (by rfl) T.z_len PySem.boot_len (pa_cons (pv 3) pa_nil)) pa_nil))))
      (pss_cons
      (ps_if (pt_cmpR op_eq (pv 4) pe_int (nomark _)) (pss_one
      (ps_ret (pe_tup (pa_cons (pe_lst pa_nil) (pa_cons (pe_lst pa_nil) (pa_cons (pe_lst pa_nil) pa_nil)))))) pss_nil)
      (pss_cons
      (ps_if (pt_cmpR op_eq (pv 4) pe_int (nomark _)) (pss_one
      (ps_ret (pe_tup (pa_cons (pe_slice (sl_listK (K := K) rfl) (pv 1) (po_some pe_int) po_none) (pa_cons (pv 2) (pa_cons (pv 3) pa_nil)))))) pss_nil)
      (pss_cons
      (ps_if (pt_cmpR op_eq (pv 4) pe_int (nomark _)) (pss_one
      (ps_ret (pe_tup (pa_cons (pv 1) (pa_cons (pe_op op_cat (pv 2) (pe_lst (pa_cons pe_int pa_nil))) (pa_cons (pv 3) pa_nil)))))) pss_nil)
      (pss_cons
      (ps_if (pt_cmpR op_eq (pv 4) pe_int (nomark _)) (pss_one
      (ps_ret (pe_tup (pa_cons (pe_op op_cat (pe_op op_cat (pe_slice (sl_listK (K := K) rfl) (pv 1) po_none (po_some (pv 5))) (pe_lst (pa_cons (pe_ix (ix_listK (K := K) rfl) (pe_lst (pa_cons pe_int (pa_cons (pe_un un_neg pe_int) pa_nil))) (C8.pe_c C_law_take hr (by decide) (by rfl) (pa_cons (pv 0) (pa_cons pe_int pa_nil))) (fun _ _ => rfl)) pa_nil))) (pe_slice (sl_listK (K := K) rfl) (pv 1) (po_some (pe_op op_add (pv 5) pe_int)) po_none)) (pa_cons (pv 2) (pa_cons (pv 3) pa_nil)))))) pss_nil)
      (pss_cons
      (ps_if (pt_cmpR op_eq (pv 4) pe_int (nomark _)) (pss_one
      (ps_ret (pe_tup (pa_cons (pv 1) (pa_cons (pe_op op_cat (pe_op op_cat (pe_slice (sl_listK (K := K) rfl) (pv 2) po_none (po_some (pv 5))) (pe_lst (pa_cons (pe_un un_neg pe_int) pa_nil))) (pe_slice (sl_listK (K := K) rfl) (pv 2) (po_some (pe_op op_add (pv 5) pe_int)) po_none)) (pa_cons (pv 3) pa_nil)))))) pss_nil)
      (pss_cons
      (ps_set (i := 6) sc_law_spoil.nd rfl (Or.inl rfl) (pe_lst (pa_cons (pe_lst pa_nil) (pa_cons (pe_op op_cat (pe_ix (ix_listK (K := K) rfl) (pv 3) (pv 5) (fun _ _ => rfl)) (pe_lst (pa_cons (pe_callB (call_lenK (K := K) rfl) (by rfl) T.z_len PySem.boot_len (pa_cons (pv 3) pa_nil)) pa_nil))) (pa_cons (pe_op op_cat (pe_lst (pa_cons (pe_un un_neg pe_int) pa_nil)) (pe_ix (ix_listK (K := K) rfl) (pv 3) (pv 5) (fun _ _ => rfl))) (pa_cons (pe_op op_cat (pe_lst (pa_cons (pe_ix (ix_listK (K := K) rfl) (pe_ix (ix_listK (K := K) rfl) (pv 3) (pv 5) (fun _ _ => rfl)) pe_int (fun _ _ => rfl)) pa_nil)) (pe_ix (ix_listK (K := K) rfl) (pv 3) (pv 5) (fun _ _ => rfl))) pa_nil))))))
      (pss_one
      (ps_ret (pe_tup (pa_cons (pv 1) (pa_cons (pv 2) (pa_cons (pe_op op_cat (pe_op op_cat (pe_slice (sl_listK (K := K) rfl) (pv 3) po_none (po_some (pv 5))) (pe_lst (pa_cons (pe_ix (ix_listK (K := K) rfl) (pv 6) (C8.pe_c C_law_take hr (by decide) (by rfl) (pa_cons (pv 0) (pa_cons pe_int pa_nil))) (fun _ _ => rfl)) pa_nil))) (pe_slice (sl_listK (K := K) rfl) (pv 3) (po_some (pe_op op_add (pv 5) pe_int)) po_none)) pa_nil)))))))))))))), ?_⟩
    have hcp := List.length_pos_iff.mpr hV.ne
    have hl2 : (as.map V.ref).length = c.length := by rw [List.length_map, hL.2.len]
    have keepLL : ∀ {X Y : Hp}, LL X r as c → Kp d X Y → LL Y r as c := fun {X Y} h k => ⟨k _ _ n3 h.1, RowsA.keep (fun b o hb hx => k _ _ (n4 b hb) hx) h.2⟩
    refine ⟨_, rfl, d, 8, rfl, hd, by decide, fun kind ds k0 k1 => ?_⟩
    have kp : Kp d H (upd H d (.lst (ds.map V.int))) := Kp.own
    have hd := (Drw.own : Drw (upd H d (.lst (ds.map V.int))) d)
    have ho := kp _ _ n1 ho
    have hp := kp _ _ n2 hp
    have hL := keepLL hL kp
    generalize upd H d (.lst (ds.map V.int)) = H1 at hd ho hp hL ⊢
    clear kp
    refine ⟨_, rfl, _, rfl, r, _, rfl, .inl (.of hL.1), d, _, rfl, hd, by rw [hl2]; omega, fun k ds2 z0 z1 => ?_⟩
    rw [hl2] at z1
    have kp : Kp d H1 (upd H1 d (.lst (ds2.map V.int))) := Kp.own
    have hd := (Drw.own : Drw (upd H1 d (.lst (ds2.map V.int))) d)
    have ho := kp _ _ n1 ho
    have hp := kp _ _ n2 hp
    have hL := keepLL hL kp
    generalize upd H1 d (.lst (ds2.map V.int)) = H2 at hd ho hp hL ⊢
    clear kp
    obtain ⟨kn, rfl⟩ : ∃ kn : Nat, k = (kn : Int) := ⟨k.toNat, by omega⟩
    have hkn : kn < c.length := by omega
    have lo := hV.lo
    have lp := hV.lp
    refine ⟨_, rfl, rfl, _, rfl, ite_eq (fun e => ?_) (fun _ => ?_)⟩
    · refine ⟨Nat.zero_le _, fun a1 h1 => ?_⟩
      have s1 := same_new (o := .lst []) h1
      have e1 := upd_same (H := H2) (a := a1) (o := .lst [])
      generalize upd H2 a1 (.lst []) = H3 at s1 e1 ⊢
      refine ⟨Nat.zero_le _, fun a2 h2 => ?_⟩
      have s2 := same_new (o := .lst []) h2
      have e2 := upd_same (H := H3) (a := a2) (o := .lst [])
      generalize upd H3 a2 (.lst []) = H4 at s2 e2 ⊢
      refine ⟨Nat.zero_le _, fun a3 h3 => ?_⟩
      have s3 := same_new (o := .lst []) h3
      have e3 := upd_same (H := H4) (a := a3) (o := .lst [])
      generalize upd H4 a3 (.lst []) = H5 at s3 e3 ⊢
      refine ⟨by show 3 ≤ sizeLine; decide, fun t ht => ?_⟩
      have s4 := same_new (o := .tup [.ref a1, .ref a2, .ref a3]) ht
      exact q _ t a1 a2 a3 [] [] [] [] upd_same (s4 _ _ (s3 _ _ (s2 _ _ e1))) (s4 _ _ (s3 _ _ e2)) ⟨s4 _ _ e3, True.intro⟩ (by simp) (by simp) (by simp) (by simp) fun v => v.ne rfl
    refine ⟨_, rfl, rfl, _, rfl, ite_eq (fun e => ?_) (fun _ => ?_)⟩
    · refine ⟨_, rfl, _, rfl, ?_⟩
      walk_at "nl"
      refine sl_frV (k := 1) ho fun H3 a1 s1 e1 => ?_
      refine ⟨_, rfl, _, rfl, by show 3 ≤ sizeLine; decide, fun t ht => ?_⟩
      have s4 := same_new (o := .tup [.ref a1, .ref p, .ref r]) ht
      rw [← List.map_drop] at e1
      exact q _ t a1 p r as (ow.drop 1) ps c upd_same (s4 _ _ e1) (s4 _ _ (s1 _ _ hp)) (hL.same (s1.trans s4)) (by rw [List.length_drop]; omega) (by omega) (by omega) (fun q hq => by have := b2 q hq; omega) fun v => by have := v.lo; rw [List.length_drop] at this; omega
    refine ⟨_, rfl, rfl, _, rfl, ite_eq (fun e => ?_) (fun _ => ?_)⟩
    · refine ⟨_, rfl, _, rfl, by show 1 ≤ sizeLine; decide, fun a1 h1 => ?_⟩
      have s1 := same_new (o := .lst [.int 0]) h1
      have e1 := upd_same (H := H2) (a := a1) (o := .lst [.int 0])
      generalize upd H2 a1 (.lst [.int 0]) = H3 at s1 e1 ⊢
      refine cat_V (s1 _ _ hp) e1 (by rw [List.length_map]; show ps.length + 1 ≤ 1000; omega) fun H4 a2 s2 _ e2 => ?_
      refine ⟨_, rfl, by show 3 ≤ sizeLine; decide, fun t ht => ?_⟩
      have s4 := same_new (o := .tup [.ref o, .ref a2, .ref r]) ht
      have s12 := s1.trans s2
      exact q _ t o a2 r as ow (ps ++ [0]) c upd_same (s4 _ _ (s12 _ _ ho)) (by rw [List.map_append]; exact s4 _ _ e2) (hL.same (s12.trans s4)) (by omega) (by rw [List.length_append]; show ps.length + 1 ≤ 100; omega) (by omega) (fun q hq => by have := b2 q hq; omega) fun v => by have := v.lp; rw [List.length_append] at this; simp at this; omega
    refine ⟨_, rfl, rfl, _, rfl, ite_eq (fun e => ?_) (fun _ => ?_)⟩
    · refine ⟨_, rfl, ?_⟩
      walk_at "nl"
      refine ⟨_, rfl, _, rfl, ?_⟩
      refine sl_toV ho fun H3 a1 s1 n1' e1 => ?_
      have na1 := nd_of hd n1'
      have hd3 : Drw H3 d := hd.same s1
      refine ⟨_, rfl, by show 2 ≤ sizeLine; decide, fun b1 hb1 => ?_⟩
      have nb1 := nd_of hd3 hb1
      have s2 := same_new (o := .lst [.int 2, .int (-1)]) hb1
      have e2 := upd_same (H := H3) (a := b1) (o := .lst [.int 2, .int (-1)])
      have hd4 := hd3.same s2
      generalize upd H3 b1 (.lst [.int 2, .int (-1)]) = H4 at s2 e2 hd4 ⊢
      have s02 := s1.trans s2
      refine ⟨_, rfl, d, 2, rfl, hd4, by decide, fun u us u0 u1 => ?_⟩
      have kp : Kp d H4 (upd H4 d (.lst (us.map V.int))) := Kp.own
      generalize upd H4 d (.lst (us.map V.int)) = H5 at kp ⊢
      obtain ⟨z, hz, hat⟩ : ∃ z : Int, ¬ (0 ≤ z ∧ z ≤ 1) ∧ atI [V.int 2, V.int (-1)] u = some (.int z) := by
        rcases (show u = 0 ∨ u = 1 by omega) with rfl | rfl
        · exact ⟨2, by omega, rfl⟩
        · exact ⟨-1, by omega, rfl⟩
      refine ⟨b1, _, _, .int z, rfl, rfl, .of (kp _ _ nb1 e2), hat, by show 1 ≤ sizeLine; decide, fun b9 hb2 => ?_⟩
      have s3 := same_new (o := .lst [.int z]) hb2
      have e3 := upd_same (H := H5) (a := b9) (o := .lst [.int z])
      generalize upd H5 b9 (.lst [.int z]) = H6 at s3 e3 ⊢
      have up : ∀ {b : Addr} {u : HO}, b ≠ d → H2 b = some u → H6 b = some u := fun nb h => s3 _ _ (kp _ _ nb (s02 _ _ h))
      have hL6 : LL H6 r as c := (keepLL (hL.same s02) kp).same s3
      refine cat_V (s3 _ _ (kp _ _ na1 (s2 _ _ e1))) e3 (by rw [List.length_take, List.length_map]; show _ + 1 ≤ 1000; omega) fun H7 a3 s4 _ e4 => ?_
      refine ⟨_, rfl, _, rfl, _, _, rfl, rfl, _, rfl, ?_⟩
      refine sl_frV (k := kn + 1) (s4 _ _ (up n1 ho)) fun H8 a4 s5 e5 => ?_
      refine cat_V (s5 _ _ e4) e5 (by rw [List.length_append, List.length_take, List.length_drop, List.length_map]; show _ + 1 + _ ≤ 1000; omega) fun H9 a5 s6 _ e6 => ?_
      refine ⟨_, rfl, _, rfl, by show 3 ≤ sizeLine; decide, fun t ht => ?_⟩
      have s7 := same_new (o := .tup [.ref a5, .ref p, .ref r]) ht
      have s47 := (s4.trans (s5.trans s6)).trans s7
      have e6' : H9 a5 = some (.lst ((ow.take kn ++ [z] ++ ow.drop (kn + 1)).map V.int)) := by
        rw [e6, List.map_append, List.map_append, List.map_take, List.map_drop]
        rfl
      exact q _ t a5 p r as (ow.take kn ++ [z] ++ ow.drop (kn + 1)) ps c upd_same (s7 _ _ e6') (s47 _ _ (up n2 hp)) (hL6.same s47) (by rw [List.length_append, List.length_append, List.length_take, List.length_drop]; show _ + 1 + _ ≤ 100; omega) (by omega) (by omega) (fun q hq => by have := b2 q hq; omega) fun v => hz (v.ow1 z (by simp))
    refine ⟨_, rfl, rfl, _, rfl, ite_eq (fun e => ?_) (fun _ => ?_)⟩
    · refine ⟨_, rfl, _, rfl, ?_⟩
      walk_at "nl"
      refine ⟨_, rfl, _, rfl, ?_⟩
      refine sl_toV hp fun H3 a1 s1 _ e1 => ?_
      refine ⟨_, rfl, by show 1 ≤ sizeLine; decide, fun b1 hb1 => ?_⟩
      have s2 := same_new (o := .lst [.int (-1)]) hb1
      have e2 := upd_same (H := H3) (a := b1) (o := .lst [.int (-1)])
      generalize upd H3 b1 (.lst [.int (-1)]) = H4 at s2 e2 ⊢
      refine cat_V (s2 _ _ e1) e2 (by rw [List.length_take, List.length_map]; show _ + 1 ≤ 1000; omega) fun H5 a3 s3 _ e3 => ?_
      refine ⟨_, rfl, _, rfl, _, _, rfl, rfl, _, rfl, ?_⟩
      have s03 := (s1.trans s2).trans s3
      refine sl_frV (k := kn + 1) (s03 _ _ hp) fun H6 a4 s4 e4 => ?_
      refine cat_V (s4 _ _ e3) e4 (by rw [List.length_append, List.length_take, List.length_drop, List.length_map]; show _ + 1 + _ ≤ 1000; omega) fun H7 a5 s5 _ e5 => ?_
      refine ⟨_, rfl, by show 3 ≤ sizeLine; decide, fun t ht => ?_⟩
      have s6 := same_new (o := .tup [.ref o, .ref a5, .ref r]) ht
      have s06 := (s03.trans (s4.trans s5)).trans s6
      have e5' : H7 a5 = some (.lst ((ps.take kn ++ [-1] ++ ps.drop (kn + 1)).map V.int)) := by
        rw [e5, List.map_append, List.map_append, List.map_take, List.map_drop]
        rfl
      exact q _ t o a5 r as ow (ps.take kn ++ [-1] ++ ps.drop (kn + 1)) c upd_same (s06 _ _ ho) (s6 _ _ e5') (hL.same s06) (by omega) (by rw [List.length_append, List.length_append, List.length_take, List.length_drop]; show _ + 1 + _ ≤ 100; omega) (by omega) (fun q hq => by have := b2 q hq; omega) fun v => by have := v.pr (-1) (by simp); omega
    obtain ⟨row, hrow⟩ : ∃ row, c[kn]? = some row := ⟨_, List.getElem?_eq_getElem hkn⟩
    obtain ⟨ra, hra⟩ : ∃ ra, as[kn]? = some ra := ⟨_, List.getElem?_eq_getElem (by rw [hL.2.len]; exact hkn)⟩
    obtain ⟨row2, h1, era⟩ := hL.2.get hra
    rw [hrow] at h1
    obtain rfl := Option.some.inj h1
    have hrm := List.mem_of_getElem? hrow
    have hmv := hV.mv row hrm
    have hrl := b2 row hrm
    obtain ⟨z, hz0⟩ : ∃ z, row[0]? = some z := ⟨_, List.getElem?_eq_getElem (List.length_pos_iff.mpr hmv.1)⟩
    have hatr : atI (as.map V.ref) (kn : Int) = some (.ref ra) := atI_nat (by rw [List.getElem?_map, hra]; rfl)
    refine ⟨Nat.zero_le _, fun a1 h1 => ?_⟩
    have na1 := nd_of hd h1
    have s1 := same_new (o := .lst []) h1
    have e1 := upd_same (H := H2) (a := a1) (o := .lst [])
    generalize upd H2 a1 (.lst []) = H3 at s1 e1 ⊢
    have hdA := hd.same s1
    -- moves[k] + [len(moves)]
    refine ⟨_, rfl, _, rfl, r, _, _, .ref ra, rfl, rfl, .of (s1 _ _ hL.1), hatr, _, rfl, r, _, rfl, .inl (.of (s1 _ _ hL.1)), by show 1 ≤ sizeLine; decide, fun x1 hx1 => ?_⟩
    have s2 := same_new (o := .lst [.int (((as.map V.ref).length : Nat) : Int)]) hx1
    have f1 := upd_same (H := H3) (a := x1) (o := .lst [.int (((as.map V.ref).length : Nat) : Int)])
    generalize upd H3 x1 (.lst [.int (((as.map V.ref).length : Nat) : Int)]) = H4 at s2 f1 ⊢
    have s12 := s1.trans s2
    refine cat_V (s12 _ _ era) f1 (by rw [List.length_map]; show _ + 1 ≤ 1000; omega) fun H5 a2 s3 h2 e2 => ?_
    have na2 := nd_of (hd.same s12) h2
    have s13 := s12.trans s3
    -- [-1] + moves[k]
    refine ⟨_, rfl, by show 1 ≤ sizeLine; decide, fun x2 hx2 => ?_⟩
    have s4 := same_new (o := .lst [.int (-1)]) hx2
    have f2 := upd_same (H := H5) (a := x2) (o := .lst [.int (-1)])
    generalize upd H5 x2 (.lst [.int (-1)]) = H6 at s4 f2 ⊢
    have s14 := s13.trans s4
    refine ⟨_, rfl, _, rfl, r, _, _, .ref ra, rfl, rfl, .of (s14 _ _ hL.1), hatr, ?_⟩
    refine cat_V f2 (s14 _ _ era) (by rw [List.length_map]; show 1 + _ ≤ 1000; omega) fun H7 a3 s5 h3 e3 => ?_
    have na3 := nd_of (hd.same s14) h3
    have s15 := s14.trans s5
    -- [moves[k][0]] + moves[k]
    refine ⟨_, rfl, _, rfl, r, _, _, .ref ra, rfl, rfl, .of (s15 _ _ hL.1), hatr, ra, _, _, .int z, rfl, rfl, .of (s15 _ _ era), atI_nat (j := 0) (by rw [List.getElem?_map, hz0]; rfl), by show 1 ≤ sizeLine; decide, fun x3 hx3 => ?_⟩
    have s6 := same_new (o := .lst [.int z]) hx3
    have f3 := upd_same (H := H7) (a := x3) (o := .lst [.int z])
    generalize upd H7 x3 (.lst [.int z]) = H8 at s6 f3 ⊢
    have s16 := s15.trans s6
    refine ⟨_, rfl, _, rfl, r, _, _, .ref ra, rfl, rfl, .of (s16 _ _ hL.1), hatr, ?_⟩
    refine cat_V f3 (s16 _ _ era) (by rw [List.length_map]; show 1 + _ ≤ 1000; omega) fun H9 a4 s7 h4 e4 => ?_
    have na4 := nd_of (hd.same s16) h4
    have s17 := s16.trans s7
    refine ⟨by show 4 ≤ sizeLine; decide, fun BD hBD => ?_⟩
    have nBD := nd_of (hd.same s17) hBD
    have s8 := same_new (o := .lst [.ref a1, .ref a2, .ref a3, .ref a4]) hBD
    have eB := upd_same (H := H9) (a := BD) (o := .lst [.ref a1, .ref a2, .ref a3, .ref a4])
    generalize upd H9 BD (.lst [.ref a1, .ref a2, .ref a3, .ref a4]) = HA at s8 eB ⊢
    have g1 := s8 _ _ (s7 _ _ (s6 _ _ (s5 _ _ (s4 _ _ (s3 _ _ (s2 _ _ e1))))))
    have g2 := s8 _ _ (s7 _ _ (s6 _ _ (s5 _ _ (s4 _ _ e2))))
    have g3 := s8 _ _ (s7 _ _ (s6 _ _ e3))
    have g4 := s8 _ _ e4
    have s18 := s17.trans s8
    have hdB := hd.same s18
    clear s2 s3 s4 s5 s6 s7 s8 s12 s13 s14 s15 s16 s17 f1 f2 f3 e1 e2 e3 e4
    refine ⟨_, rfl, _, rfl, _, rfl, ?_⟩
    walk_at "nl"
    refine ⟨_, rfl, _, rfl, ?_⟩
    refine sl_toV (s18 _ _ hL.1) fun HB w1 t1 hw1 e5 => ?_
    have nw1 := nd_of hdB hw1
    have hdC := hdB.same t1
    refine ⟨_, rfl, _, rfl, d, 4, rfl, hdC, by decide, fun u us u0 u1 => ?_⟩
    have kp : Kp d HB (upd HB d (.lst (us.map V.int))) := Kp.own
    generalize upd HB d (.lst (us.map V.int)) = HC at kp ⊢
    have hzm := List.mem_of_getElem? hz0
    obtain ⟨bx, nrow, eb, nbx, hbad, hlen, hat⟩ : ∃ (bx : Addr) (nrow : List Int), HB bx = some (.lst (nrow.map V.int)) ∧ bx ≠ d ∧ ¬ (nrow ≠ [] ∧ Asc (c.length : Int) nrow) ∧ nrow.length ≤ 100 ∧ atI [V.ref a1, .ref a2, .ref a3, .ref a4] u = some (.ref bx) := by
      rcases (show u = 0 ∨ u = 1 ∨ u = 2 ∨ u = 3 by omega) with rfl | rfl | rfl | rfl
      · exact ⟨a1, [], t1 _ _ g1, na1, fun v => v.1 rfl, by simp, rfl⟩
      · refine ⟨a2, row ++ [(c.length : Int)], by rw [List.map_append, ← hl2]; exact t1 _ _ g2, na2, fun v => ?_, by rw [List.length_append]; show row.length + 1 ≤ 100; omega, rfl⟩
        have := v.2.2 (c.length : Int) (by simp)
        omega
      · refine ⟨a3, [-1] ++ row, by rw [List.map_append]; exact t1 _ _ g3, na3, fun v => ?_, by rw [List.length_append]; show 1 + row.length ≤ 100; omega, rfl⟩
        have := v.2.2 (-1) (by simp)
        omega
      · refine ⟨a4, [z] ++ row, by rw [List.map_append]; exact t1 _ _ g4, na4, fun v => ?_, by rw [List.length_append]; show 1 + row.length ≤ 100; omega, rfl⟩
        have := (List.pairwise_append.mp v.2.1).2.2 z (by simp) z hzm
        omega
    refine ⟨BD, _, _, .ref bx, rfl, rfl, .of (kp _ _ nBD (t1 _ _ eB)), hat, by show 1 ≤ sizeLine; decide, fun y1 hy1 => ?_⟩
    have t2 := same_new (o := .lst [.ref bx]) hy1
    have e6 := upd_same (H := HC) (a := y1) (o := .lst [.ref bx])
    generalize upd HC y1 (.lst [.ref bx]) = HD at t2 e6 ⊢
    have up : ∀ {b : Addr} {u : HO}, b ≠ d → HB b = some u → HD b = some u := fun nb h => t2 _ _ (kp _ _ nb h)
    have s19 := s18.trans t1
    have hLD : LL HD r as c := (keepLL (hL.same s19) kp).same t2
    have ebD := up nbx eb
    have hasl : as.length = c.length := hL.2.len
    refine cat_V (up nw1 e5) e6 (by rw [List.length_take, List.length_map]; show _ + 1 ≤ 1000; omega) fun HE y2 t3 _ e7 => ?_
    refine ⟨_, rfl, _, rfl, _, _, rfl, rfl, _, rfl, ?_⟩
    refine sl_frV (k := kn + 1) (t3 _ _ hLD.1) fun HF y3 t4 e8 => ?_
    refine cat_V (t4 _ _ e7) e8 (by rw [List.length_append, List.length_take, List.length_drop, List.length_map]; show _ + 1 + _ ≤ 1000; omega) fun HG y4 t5 _ e9 => ?_
    refine ⟨by show 3 ≤ sizeLine; decide, fun t ht => ?_⟩
    have t6 := same_new (o := .tup [.ref o, .ref p, .ref y4]) ht
    have t36 := (t3.trans (t4.trans t5)).trans t6
    have hR : RowsA .lst (upd HG t (.tup [.ref o, .ref p, .ref y4])) (as.take kn ++ [bx] ++ as.drop (kn + 1)) (c.take kn ++ [nrow] ++ c.drop (kn + 1)) :=
      (rows_app (rows_app (rows_take kn hLD.2) (show RowsA .lst HD [bx] [nrow] from ⟨ebD, True.intro⟩)) (rows_drop (kn + 1) hLD.2)).same t36
    have hcl : (c.take kn ++ [nrow] ++ c.drop (kn + 1)).length = c.length := by
      rw [List.length_append, List.length_append, List.length_take, List.length_drop]
      show min kn c.length + 1 + (c.length - (kn + 1)) = c.length
      omega
    refine q _ t o p y4 (as.take kn ++ [bx] ++ as.drop (kn + 1)) ow ps (c.take kn ++ [nrow] ++ c.drop (kn + 1)) upd_same (t36 _ _ (up n1 (s19 _ _ ho))) (t36 _ _ (up n2 (s19 _ _ hp))) ⟨?_, hR⟩ (by omega) (by omega) (by omega) (fun q hq => ?_) fun v => ?_
    · refine (t6 _ _ e9).trans ?_
      rw [List.map_append, List.map_append, List.map_take, List.map_drop]
      rfl
    · rcases List.mem_append.mp hq with y | y
      · rcases List.mem_append.mp y with y | y
        · have := b2 q (List.mem_of_mem_take y); omega
        · rw [List.mem_singleton.mp y]; exact hlen
      · have := b2 q (List.mem_of_mem_drop y); omega
    · have := v.mv nrow (by simp)
      rw [hcl] at this
      exact hbad this
/-! data -/
def dRows (rows : List (List Int)) : List PyData := rows.map fun r => .list (r.map PyData.int)
theorem layRows : ∀ rows : List (List Int), PyData.canLayAll0 (dRows rows) = true
  | [] => rfl
  | r :: rs => by
    show PyData.canLayAll0 (PyData.list (r.map PyData.int) :: dRows rs) = true
    rw [PyData.canLayAll0, PyData.canLay0, layAll r, layRows rs]
    rfl
theorem depRows : ∀ rows : List (List Int), PyData.depthAll (dRows rows) ≤ 1
  | [] => by simp [dRows, PyData.depthAll]
  | r :: rs => by
    show PyData.depthAll (PyData.list (r.map PyData.int) :: dRows rs) ≤ 1
    have := depRows rs
    rw [PyData.depthAll, PyData.depth, depAll r]
    omega
theorem dpRows {K : PySem.W.Frag} {H : Hp} : ∀ {as : List Addr} {rows : List (List Int)}, RowsA .lst H as rows → DpAll K H (as.map V.ref) (dRows rows)
  | [], [], _ => .nil
  | a :: as, r :: rs, h => .cons (dp_lst h.1) (dpRows h.2)
  | [], _ :: _, h => h.elim
  | _ :: _, [], h => h.elim
theorem shaped_of {d : PyData} (h1 : d.canLay0 = true) (h2 : d.depth ≤ 64) : SeqAt.shaped d = true := by
  unfold SeqAt.shaped
  rw [h1, decide_eq_true h2]
  rfl
def dG3 (ow ps : List Int) (c : List (List Int)) : PyData := .list [.list (ow.map PyData.int), .list (ps.map PyData.int), .list (dRows c)]
theorem lay_g3 (ow ps : List Int) (c : List (List Int)) : (dG3 ow ps c).canLay0 = true := by
  unfold dG3
  rw [PyData.canLay0, PyData.canLayAll0, PyData.canLayAll0, PyData.canLayAll0, PyData.canLayAll0, PyData.canLay0, layAll, PyData.canLay0, layAll, PyData.canLay0, layRows]
  rfl
theorem shaped_g3 (ow ps : List Int) (c : List (List Int)) : SeqAt.shaped (dG3 ow ps c) = true := by
  refine shaped_of (lay_g3 ow ps c) ?_
  unfold dG3
  have := depRows c
  rw [PyData.depth, PyData.depthAll, PyData.depthAll, PyData.depthAll, PyData.depthAll, PyData.depth, depAll, PyData.depth, depAll, PyData.depth]
  omega
theorem shaped_rws (c : List (List Int)) : SeqAt.shaped (.list (dRows c)) = true := by
  refine shaped_of (by rw [PyData.canLay0, layRows]) ?_
  have := depRows c
  rw [PyData.depth]
  omega
theorem dp_g3 {H : Hp} {t o p r : Addr} {as : List Addr} {ow ps : List Int} {c : List (List Int)} (ht : H t = some (.lst [.ref o, .ref p, .ref r])) (ho : H o = some (.lst (ow.map V.int))) (hp : H p = some (.lst (ps.map V.int))) (hr : LL H r as c) : Dp K H (.ref t) (dG3 ow ps c) :=
  .lst (.of ht) (.cons (dp_lst ho) (.cons (dp_lst hp) (.cons (.lst (.of hr.1) (dpRows hr.2)) .nil)))
theorem lay_rws (c : List (List Int)) : (PyData.list (dRows c)).canLay0 = true := by rw [PyData.canLay0, layRows]
theorem dp_arr {K : PySem.W.Frag} {H : Hp} {a : Addr} {N : Nat} {s : Nat → Int} (h : ArrI H a N s) : Dp K H (.ref a) (.list (((List.range N).map s).map PyData.int)) := dp_lst (by rw [List.map_map]; exact h)
theorem ok_law {f : Addr} {fd : FuncData} (F : L2.Fun K "law" "law" s_law f fd) (T : Txt K mg) : FnOk P w K mg base CX0 8 f fd ["script"] (spLaw K) := by
  obtain ⟨cI, cL, C, fI, fdI, eI, eL, PC, hM, gC, F0, hB⟩ := T.er
  have C_law_draws : C8.Cal P w K mg base 1 "_law_draws" (spDraws K) [] := cal_draws T
  have C_law_take : C8.Cal P w K mg base 1 "_law_take" spTake [] := cal_take T
  have C_law_game : C8.Cal P w K mg base 3 "_law_game" spGame [] := cal_game T
  have C_law_spoil : C8.Cal P w K mg base 2 "_law_spoil" spGSpoil [] := cal_gspoil T
  have C_law_flat : C8.Cal P w K mg base 1 "_law_flat" spFlat [] := cal_flat T
  have C_law_outcome : C8.Cal P w K mg base 4 "_law_outcome" (spGOut C) [] := cal_gout T eI PC hM gC F0 hB
  have C_law_distances : C8.Cal P w K mg base 4 "_law_distances" (spGDist C) [] := cal_gdist T eL PC
  have C_law_integers : C8.Cal P w K mg base 2 "_law_integers" spInts [] := cal_ints T
  have C_law_expected : C8.Cal P w K mg base 1 "_law_expected" spExpd [] := cal_expd T
  refine F.ok sc_law (fun vs H Q E h => ?_) (fun cdv A outer s H vs Q E hr h => ?_)
  · obtain ⟨a, ns, rfl, _⟩ := h
    rfl
  · obtain ⟨sa, ns, rfl, hS, hlen, q⟩ := h
    refine ⟨_, (pss_cons
      (ps_set (i := 1) sc_law.nd rfl (Or.inr rfl) (C8.pe_c C_law_draws hr (by decide) (by rfl) (pa_cons (pv 0) (pa_cons pe_int pa_nil))))
      (pss_cons
      (ps_asg (C8.pe_c C_law_game hr (by decide) (by rfl) (pa_cons (pv 1) (pa_cons pe_int pa_nil))) (pg_tup (by rfl) (pgs_cons (pg_name (i := 2) sc_law.nd rfl (.inl rfl)) (pgs_cons (pg_name (i := 3) sc_law.nd rfl (.inl rfl)) (pgs_cons (pg_name (i := 4) sc_law.nd rfl (.inl rfl)) pgs_nil)))))
      (pss_cons
      (ps_set (i := 5) sc_law.nd rfl (Or.inr rfl) (pe_callB (call_lenK (K := K) rfl) (by rfl) T.z_len PySem.boot_len (pa_cons (pv 4) pa_nil)))
      (pss_cons
      (ps_if (pt_cmpR op_eq (C8.pe_c C_law_take hr (by decide) (by rfl) (pa_cons (pv 1) (pa_cons pe_int pa_nil))) pe_int (nomark _)) (pss_cons
      (ps_asg (C8.pe_c C_law_spoil hr (by decide) (by rfl) (pa_cons (pv 1) (pa_cons (pv 2) (pa_cons (pv 3) (pa_cons (pv 4) pa_nil))))) (pg_tup (by rfl) (pgs_cons (pg_name (i := 2) sc_law.nd rfl (.inl rfl)) (pgs_cons (pg_name (i := 3) sc_law.nd rfl (.inl rfl)) (pgs_cons (pg_name (i := 4) sc_law.nd rfl (.inl rfl)) pgs_nil)))))
      (pss_one
      (ps_ret (pe_cmpR op_isN (C8.pe_c C_law_outcome hr (by decide) (by rfl) (pa_cons (pe_callTy (call_list_ofK (K := K) rfl) (by rfl) T.z_list (by decide +kernel) (pa_cons (pv 2) pa_nil)) (pa_cons (pe_callTy (call_list_ofK (K := K) rfl) (by rfl) T.z_list (by decide +kernel) (pa_cons (pv 3) pa_nil)) (pa_cons (C8.pe_c C_law_flat hr (by decide) (by rfl) (pa_cons (pv 4) pa_nil)) pa_nil)))) pe_non (nomark _))))) pss_nil)
      (pss_cons
      (ps_set (i := 6) sc_law.nd rfl (Or.inl rfl) (pe_lst (pa_cons (pe_callTy (call_list_ofK (K := K) rfl) (by rfl) T.z_list (by decide +kernel) (pa_cons (pv 2) pa_nil)) (pa_cons (pe_callTy (call_list_ofK (K := K) rfl) (by rfl) T.z_list (by decide +kernel) (pa_cons (pv 3) pa_nil)) (pa_cons (C8.pe_c C_law_flat hr (by decide) (by rfl) (pa_cons (pv 4) pa_nil)) pa_nil)))))
      (pss_cons
      (ps_set (i := 7) sc_law.nd rfl (Or.inl rfl) (C8.pe_c C_law_outcome hr (by decide) (by rfl) (pa_cons (pe_ix (ix_listK (K := K) rfl) (pv 6) pe_int (fun _ _ => rfl)) (pa_cons (pe_ix (ix_listK (K := K) rfl) (pv 6) pe_int (fun _ _ => rfl)) (pa_cons (pe_ix (ix_listK (K := K) rfl) (pv 6) pe_int (fun _ _ => rfl)) pa_nil)))))
      (pss_cons
      (ps_if (PW.pt (pw_or (pt_cmpR op_isN (pv 7) pe_non (nomark _)) (pw_or1 (pt_cmpR (op_neDK (K := K) rfl hr.units) (pv 6) (pe_lst (pa_cons (pv 2) (pa_cons (pv 3) (pa_cons (pv 4) pa_nil)))) (nomark _))))) (pss_one
      (ps_ret pe_bl)) pss_nil)
      (pss_cons
      (ps_setLc (i := 8) (own := [("k", 13)]) (g := gName 13) (tt := tYes) rfl sc_law.nd rfl rfl (sw_true rfl rfl rfl (by decide +kernel)) (pi_range1 (by rfl) T.z_range (pa_cons (C8.pe_c C_law_take hr (by decide) (by rfl) (pa_cons (pv 1) (pa_cons pe_int pa_nil))) pa_nil)) (blkOk_by (N := N_law) (sc := defScope s_law) (by decide +kernel)) (fun _ _ _ _ _ => (pg_name (i := 13) sc_law.nd rfl (Or.inl rfl))) (fun _ _ _ _ _ => pts_nil) (fun _ _ _ _ _ => (C8.pe_c C_law_take hr (by decide) (by rfl) (pa_cons (pv 1) (pa_cons (pv 5) pa_nil)))))
      (C8.pss_cut
      (ps_if (pt_cmpR op_eq (C8.pe_c C_law_take hr (by decide) (by rfl) (pa_cons (pv 1) (pa_cons pe_int pa_nil))) pe_int (nomark _)) (pss_one
      (ps_expr (pe_bm PySem.F.plainAttrs_list PySem.F.slot_list_append PySem.F.type_list_append mt_append (pv 8) (pa_cons (pe_ix (ix_listK (K := K) rfl) (pe_lst (pa_cons (pe_un un_neg pe_int) (pa_cons (pv 5) pa_nil))) (C8.pe_c C_law_take hr (by decide) (by rfl) (pa_cons (pv 1) (pa_cons pe_int pa_nil))) (fun _ _ => rfl)) pa_nil)))) pss_nil)
      (pss_cons
      (ps_set (i := 9) sc_law.nd rfl (Or.inl rfl) (C8.pe_c C_law_take hr (by decide) (by rfl) (pa_cons (pv 1) (pa_cons pe_int pa_nil))))
      (pss_cons
      (ps_expr (pe_bm PySem.F.plainAttrs_list PySem.F.slot_list_append PySem.F.type_list_append mt_append (pe_ix (ix_listK (K := K) rfl) (pv 6) pe_int (fun _ _ => rfl)) (pa_cons pe_int pa_nil)))
      (pss_cons
      (ps_expr (pe_bm PySem.F.plainAttrs_list PySem.F.slot_list_append PySem.F.type_list_append mt_append (pe_ix (ix_listK (K := K) rfl) (pv 6) pe_int (fun _ _ => rfl)) (pa_cons (pe_lst (pa_cons pe_int pa_nil)) pa_nil)))
      (pss_cons
      (ps_set (i := 10) sc_law.nd rfl (Or.inl rfl) (pe_callTy (call_list_ofK (K := K) rfl) (by rfl) T.z_list (by decide +kernel) (pa_cons (pv 8) pa_nil)))
      (pss_cons
      (ps_set (i := 11) sc_law.nd rfl (Or.inl rfl) (C8.pe_c C_law_distances hr (by decide) (by rfl) (pa_cons (pv 7) (pa_cons (pv 9) (pa_cons (pv 10) pa_nil)))))
      (pss_cons
      (ps_if (PW.pt (pw_or (pt_cmpR (op_neDK (K := K) rfl hr.units) (pv 10) (pv 8) (nomark _)) (pw_or (pt_not (pt_val (C8.pe_c C_law_integers hr (by decide) (by rfl) (pa_cons (pe_fld (pv 7) rfl) (pa_cons pe_int (pa_cons pe_int pa_nil)))))) (pw_or1 (pt_cmpR (op_neDK (K := K) rfl hr.units) (pe_callTy (call_list_ofK (K := K) rfl) (by rfl) T.z_list (by decide +kernel) (pa_cons (pe_fld (pv 7) rfl) pa_nil)) (pv 2) (nomark _)))))) (pss_one
      (ps_ret pe_bl)) pss_nil)
      (pss_cons
      (ps_if (PW.pt (pw_or (pt_cmpR (op_neDK (K := K) rfl hr.units) (pe_callTy (call_list_ofK (K := K) rfl) (by rfl) T.z_list (by decide +kernel) (pa_cons (pe_fld (pv 7) rfl) pa_nil)) (pv 3) (nomark _)) (pw_or1 (pt_cmpR (op_neDK (K := K) rfl hr.units) (pe_lc (own := [("row", 14)]) (g := gName 14) (tt := tYes) rfl sc_law.nd (pi_tup (pe_fld (pv 7) rfl)) (blkOk_by (N := N_law) (sc := defScope s_law) (by decide +kernel)) (fun _ _ _ _ _ => (pg_name (i := 14) sc_law.nd rfl (Or.inl rfl))) (fun _ _ _ _ _ => pts_nil) (fun _ _ _ _ _ => (pe_callTy (call_list_ofK (K := K) rfl) (by rfl) T.z_list (by decide +kernel) (pa_cons (pv 14) pa_nil)))) (pv 4) (nomark _))))) (pss_one
      (ps_ret pe_bl)) pss_nil)
      (pss_cons
      (ps_setLc (i := 12) (own := [("target", 15)]) (g := gName 15) rfl sc_law.nd rfl rfl (sw_true rfl rfl rfl (by decide +kernel)) (pi_list (pv 8)) (blkOk_by (N := N_law) (sc := defScope s_law) (by decide +kernel)) (fun _ _ _ _ _ => (pg_name (i := 15) sc_law.nd rfl (Or.inl rfl))) (fun _ _ _ _ _ => (pts_one (PW.pt (pw_or (pt_cmpR op_lt (pv 15) pe_int (nomark _)) (pw_or1 (pt_cmpR op_ge (pv 15) (pv 5) (nomark _))))))) (fun _ _ _ _ _ => (pv 15)))
      (pss_cons
      (ps_if (pt_cmpR op_gt (pe_callB (call_lenK (K := K) rfl) (by rfl) T.z_len PySem.boot_len (pa_cons (pv 12) pa_nil)) pe_int (nomark _)) (pss_one
      (ps_ret (pe_cmpR op_isN (pv 11) pe_non (nomark _)))) pss_nil)
      (pss_one
      (ps_ret (pe_and (pe_callB (call_isiK' (K := K) rfl) (by rfl) T.z_isinstance (by decide +kernel) (pa_cons (pv 11) (pa_cons (pe_bltn (v := .ty "list") (by rfl) T.z_list (by decide +kernel) rfl) pa_nil))) (pe_one (pe_cmpR (op_eqDK (K := K) rfl hr.units) (pv 11) (C8.pe_c C_law_expected hr (by decide) (by rfl) (pa_cons (pv 2) (pa_cons (pv 4) (pa_cons (pv 9) (pa_cons (pv 8) pa_nil))))) (nomark _)))))))))))))))))))))))), ?_⟩
    refine ⟨_, rfl, sa, ns, 150, rfl, hS, by decide, fun H1 d s1 hd0 d1 => ?_⟩
    refine ⟨_, rfl, d, 6, rfl, d1, by decide, by decide, fun H2 t o p r as ow ps c k2 d2 et ho hp hL n1 n2 n3 n4 hV hc => ?_⟩
    refine ⟨t, _, rfl, .of et, rfl, _, _, rfl, _, _, rfl, _, _, rfl, rfl, ?_⟩
    clear k2 et d1 s1 hd0
    have hl2 : (as.map V.ref).length = c.length := by rw [List.length_map, hL.2.len]
    have hcp := List.length_pos_iff.mpr hV.ne
    have hc6 : c.length ≤ 6 := by omega
    have lo := hV.lo
    have lp := hV.lp
    have hrow : ∀ q ∈ c, q.length ≤ 6 := fun q hq => by
      have ha := (hV.mv q hq).2
      have := nodup_le c.length (q.map Int.toNat) (List.pairwise_map.mpr (List.Pairwise.imp_of_mem (fun {a b} ma mb hab => by have h1 := ha.2 a ma; have h2 := ha.2 b mb; show a.toNat ≠ b.toNat; omega) ha.1)) (fun k hk => by obtain ⟨z, hz, rfl⟩ := List.mem_map.mp hk; have := ha.2 z hz; omega)
      rw [List.length_map] at this
      omega
    have keepLL : ∀ {X Y : Hp}, LL X r as c → Kp d X Y → LL Y r as c := fun {X Y} h k => ⟨k _ _ n3 h.1, RowsA.keep (fun b o hb hx => k _ _ (n4 b hb) hx) h.2⟩
    refine ⟨_, rfl, r, _, rfl, .inl (.of hL.1), ?_⟩
    rw [hl2]
    refine ⟨_, rfl, d, 4, rfl, d2, by decide, fun u us u0 u1 => ?_⟩
    have kp : Kp d H2 (upd H2 d (.lst (us.map V.int))) := Kp.own
    have hd := (Drw.own : Drw (upd H2 d (.lst (us.map V.int))) d)
    have ho := kp _ _ n1 ho
    have hp := kp _ _ n2 hp
    have hL := keepLL hL kp
    generalize upd H2 d (.lst (us.map V.int)) = H3 at hd ho hp hL ⊢
    clear kp d2
    refine ⟨rfl, _, rfl, ite_eq (fun _ => ?_) (fun _ => ?_)⟩
    · refine ⟨_, rfl, _, rfl, _, rfl, _, rfl, d, o, p, r, as, ow, ps, c, rfl, hd, ho, hp, hL, n1, n2, n3, n4, hV, by omega, fun q hq => by have := hrow q hq; omega, fun H4 t o' p' r' as' ow' ps' c' et eo ep eL' l1 l2 l3 l4 hno => ?_⟩
      refine ⟨t, _, rfl, .of et, rfl, _, _, rfl, _, _, rfl, _, _, rfl, rfl, ?_⟩
      refine ⟨_, rfl, o', _, rfl, .inl (.of eo), fun a1 h1 => ?_⟩
      have s1 := same_new (o := .lst (ow'.map V.int)) h1
      have e1 := upd_same (H := H4) (a := a1) (o := .lst (ow'.map V.int))
      generalize upd H4 a1 (.lst (ow'.map V.int)) = H5 at s1 e1 ⊢
      refine ⟨_, rfl, p', _, rfl, .inl (.of (s1 _ _ ep)), fun a2 h2 => ?_⟩
      have s2 := same_new (o := .lst (ps'.map V.int)) h2
      have e2 := upd_same (H := H5) (a := a2) (o := .lst (ps'.map V.int))
      generalize upd H5 a2 (.lst (ps'.map V.int)) = H6 at s2 e2 ⊢
      refine ⟨_, rfl, r', as', c', rfl, eL'.same (s1.trans s2), by omega, fun H7 r2 as2 hcpy => ?_⟩
      refine ⟨a1, a2, r2, as2, ow', ps', c', rfl, hcpy.1 _ _ (s2 _ _ e1), hcpy.1 _ _ e2, hcpy.2.1, by omega, by omega, by omega, fun q hq => by have := l4 q hq; omega, fun v H8 s8 hv => ?_⟩
      rcases hv with ⟨_, rfl⟩ | ⟨hv, _⟩
      · exact ⟨rfl, q _⟩
      · exact absurd hv hno
    -- passed
    refine ⟨_, rfl, o, _, rfl, .inl (.of ho), fun A1 h1 => ?_⟩
    have s1 := same_new (o := .lst (ow.map V.int)) h1
    have e1 := upd_same (H := H3) (a := A1) (o := .lst (ow.map V.int))
    generalize upd H3 A1 (.lst (ow.map V.int)) = H4 at s1 e1 ⊢
    refine ⟨_, rfl, p, _, rfl, .inl (.of (s1 _ _ hp)), fun A2 h2 => ?_⟩
    have s2 := same_new (o := .lst (ps.map V.int)) h2
    have e2 := upd_same (H := H4) (a := A2) (o := .lst (ps.map V.int))
    generalize upd H4 A2 (.lst (ps.map V.int)) = H5 at s2 e2 ⊢
    refine ⟨_, rfl, r, as, c, rfl, hL.same (s1.trans s2), by omega, fun H6 A3 as2 hcpy => ?_⟩
    obtain ⟨s3, hL3, hb3, hA3, _⟩ := hcpy
    refine ⟨by show 3 ≤ sizeLine; decide, fun PA hPA => ?_⟩
    have s4 := same_new (o := .lst [.ref A1, .ref A2, .ref A3]) hPA
    have ePA := upd_same (H := H6) (a := PA) (o := .lst [.ref A1, .ref A2, .ref A3])
    generalize upd H6 PA (.lst [.ref A1, .ref A2, .ref A3]) = H7 at s4 ePA ⊢
    have e17 := s4 _ _ (s3 _ _ (s2 _ _ e1))
    have nPA1 : PA ≠ A1 := fun z => by have y := s3 _ _ (s2 _ _ e1); rw [← z, hPA] at y; cases y
    have nPA3 : PA ≠ A3 := fun z => by have y := hL3.1; rw [← z, hPA] at y; cases y
    have e27 := s4 _ _ (s3 _ _ e2)
    have hL37 := hL3.same s4
    have sA := (s1.trans s2).trans (s3.trans s4)
    have nA3 : H3 A3 = none := (s1.trans s2).free hA3
    have nPA : H3 PA = none := ((s1.trans s2).trans s3).free hPA
    refine ⟨_, rfl, PA, _, _, .ref A1, rfl, rfl, .of ePA, rfl, _, rfl, PA, _, _, .ref A2, rfl, rfl, .of ePA, rfl, _, rfl, PA, _, _, .ref A3, rfl, rfl, .of ePA, rfl, ?_⟩
    refine ⟨A1, A2, A3, as2, ow, ps, c, rfl, e17, e27, hL37, by omega, by omega, by omega, fun q hq => by have := hrow q hq; omega, fun v H8 s8 hv => ?_⟩
    rcases hv with ⟨hv, _⟩ | ⟨_, x, rfl, hG⟩
    · exact absurd hV hv
    have sB := sA.trans s8
    refine ⟨_, rfl, rfl, _, rfl, ite_f (by simp) ?_⟩
    refine ⟨_, rfl, _, rfl, _, rfl, _, rfl, by show 3 ≤ sizeLine; decide, fun W hW => ?_⟩
    have s9 := same_new (o := .lst [.ref o, .ref p, .ref r]) hW
    refine ⟨_, _, dp_g3 (s9 _ _ (s8 _ _ ePA)) (s9 _ _ (s8 _ _ e17)) (s9 _ _ (s8 _ _ e27)) ((hL37.same s8).same s9), dp_g3 upd_same (s9 _ _ (sB _ _ ho)) (s9 _ _ (sB _ _ hp)) ((hL.same sB).same s9), shaped_g3 _ _ _, shaped_g3 _ _ _, _, rfl, ite_f (by rw [SeqAt.eqv_refl _ (lay_g3 ow ps c)]; rfl) ?_⟩
    have ePA9 := s9 _ _ (s8 _ _ ePA)
    have e19 := s9 _ _ (s8 _ _ e17)
    have hL39 := (hL37.same s8).same s9
    have sC := sB.trans s9
    generalize upd H8 W (.lst [.ref o, .ref p, .ref r]) = H9 at s9 ePA9 e19 hL39 sC ⊢
    have hG9 : GmeAt C H9 x ow ps c := by
      obtain ⟨dx, ot, pt, rt, gs, g1, g2, g3, g4, g5⟩ := hG
      exact ⟨dx, ot, pt, rt, gs, s9 _ _ g1, s9 _ _ g2, s9 _ _ g3, s9 _ _ g4, g5.same s9⟩
    have hd9 := hd.same sC
    have ho9 := sC _ _ ho
    have hp9 := sC _ _ hp
    have hL9 := hL.same sC
    have nA1d := nd_of hd h1
    have nA3d := nd_of hd nA3
    have nPAd := nd_of hd nPA
    clear s1 e1 s2 e2 s3 hL3 s4 ePA e17 e27 hL37 sA s8 hG sB s9
    refine ⟨_, rfl, d, 5, rfl, hd9, by decide, fun tn ds t0 t1 => ?_⟩
    have k1 : Kp d H9 (upd H9 d (.lst (ds.map V.int))) := Kp.own
    have hdA := (Drw.own : Drw (upd H9 d (.lst (ds.map V.int))) d)
    generalize upd H9 d (.lst (ds.map V.int)) = HA at k1 hdA ⊢
    refine ⟨_, rfl, by omega, by omega, fun TG hTG => ?_⟩
    have nTd := nd_of hdA hTG
    refine lc_range (lo := 0) (n := tn.toNat) (fun i H' => ∃ xs : List Int, Kp d HA H' ∧ Drw H' d ∧ H' TG = some (.lst (xs.map V.int)) ∧ xs.length = i)
      ⟨[], Kp.new hTG, hdA.new hTG, upd_same, rfl⟩ ?_ ?_
    · rintro i HB hi ⟨xs, k2, d2, e2, xl⟩
      refine ⟨rfl, _, rfl, _, rfl, d, _, rfl, d2, by omega, fun u us u0 u1 => ?_⟩
      have e3 : (upd HB d (.lst (us.map V.int))) TG = some (.lst (xs.map V.int)) := by rw [upd_ne nTd]; exact e2
      have k3 : Kp d HA (upd HB d (.lst (us.map V.int))) := k2.trans Kp.own
      have d3 : Drw (upd HB d (.lst (us.map V.int))) d := Drw.own
      generalize upd HB d (.lst (us.map V.int)) = HC at e3 k3 d3 ⊢
      refine ⟨_, e3, lenI (by omega), xs ++ [u], fun b o nb hb => ?_, ?_, by rw [upd_same, List.map_append]; rfl, by rw [List.length_append, xl]; rfl⟩
      · rw [upd_ne (ne_of_none hb hTG)]
        exact k3 _ _ nb hb
      · obtain ⟨o, y⟩ := d3
        exact ⟨o, by rw [upd_ne nTd.symm]; exact y⟩
    rintro HB ⟨xs, k2, hdB, eT, xl⟩
    refine ⟨fun σ H' => ∃ ts : List Int, σ = [some (.ref sa), some (.ref d), some (.ref o), some (.ref p), some (.ref r), some (.int (c.length : Nat)), some (.ref PA), some (.ref x), some (.ref TG), none, none, none, none, none, none, none] ∧ Kp d HA H' ∧ Drw H' d ∧ H' TG = some (.lst (ts.map V.int)) ∧ ts.length ≤ 6, ?_, ?_⟩
    · refine ⟨_, rfl, d, 5, rfl, hdB, by decide, fun u us u0 u1 => ?_⟩
      have k3 : Kp d HA (upd HB d (.lst (us.map V.int))) := k2.trans Kp.own
      have hdC := (Drw.own : Drw (upd HB d (.lst (us.map V.int))) d)
      have eTC : (upd HB d (.lst (us.map V.int))) TG = some (.lst (xs.map V.int)) := by rw [upd_ne nTd]; exact eT
      generalize upd HB d (.lst (us.map V.int)) = HC at k3 hdC eTC ⊢
      refine ⟨rfl, _, rfl, ite_eq (fun _ => ?_) (fun _ => ⟨xs, rfl, k3, hdC, eTC, by omega⟩)⟩
      refine ⟨_, rfl, .inl ⟨rfl, _, .of eTC⟩, _, rfl, _, rfl, by show 2 ≤ sizeLine; decide, fun b hb => ?_⟩
      have nb := nd_of hdC hb
      have s5 := same_new (o := .lst [.int (-1), .int (c.length : Nat)]) hb
      have e5 := upd_same (H := HC) (a := b) (o := .lst [.int (-1), .int (c.length : Nat)])
      have hdD := hdC.same s5
      have eTD := s5 _ _ eTC
      generalize upd HC b (.lst [.int (-1), .int (c.length : Nat)]) = HD at s5 e5 hdD eTD ⊢
      refine ⟨_, rfl, d, 2, rfl, hdD, by decide, fun u2 us2 v0 v1 => ?_⟩
      have k6 : Kp d HD (upd HD d (.lst (us2.map V.int))) := Kp.own
      have hdE := (Drw.own : Drw (upd HD d (.lst (us2.map V.int))) d)
      generalize upd HD d (.lst (us2.map V.int)) = HE at k6 hdE ⊢
      obtain ⟨z, hat⟩ : ∃ z : Int, atI [V.int (-1), V.int (c.length : Nat)] u2 = some (.int z) := by
        rcases (show u2 = 0 ∨ u2 = 1 by omega) with rfl | rfl
        · exact ⟨_, rfl⟩
        · exact ⟨_, rfl⟩
      refine ⟨b, _, _, .int z, rfl, rfl, .of (k6 _ _ nb e5), hat, TG, _, _, rfl, rfl, k6 _ _ nTd eTD, lenI (by omega), ?_⟩
      refine ⟨xs ++ [z], rfl, fun b' o' nb' hb' => ?_, ?_, by rw [upd_same, List.map_append]; rfl, by rw [List.length_append]; show xs.length + 1 ≤ 6; omega⟩
      · rw [upd_ne (ne_of_none hb' hTG)]
        exact k6 _ _ nb' (s5 _ _ (k3 _ _ nb' hb'))
      · obtain ⟨o', y⟩ := hdE
        exact ⟨o', by rw [upd_ne nTd.symm]; exact y⟩
    rintro σ HC ⟨ts, rfl, k3, hdC, eTC, htl⟩
    -- player
    refine ⟨_, rfl, d, 2, rfl, hdC, by decide, fun pl us4 p0 p1 => ?_⟩
    have k4 : Kp d HA (upd HC d (.lst (us4.map V.int))) := k3.trans Kp.own
    have eTD : (upd HC d (.lst (us4.map V.int))) TG = some (.lst (ts.map V.int)) := by rw [upd_ne nTd]; exact eTC
    generalize upd HC d (.lst (us4.map V.int)) = HD at k4 eTD ⊢
    have kk := k1.trans k4
    have hGD : GmeAt C HD x ow ps c := by
      obtain ⟨dx, ot, pt, rt, gs, g1, g2, g3, g4, g5⟩ := hG9
      obtain ⟨od, hod⟩ := hd9
      have nt : ∀ {b : Addr} {ys : List V}, H9 b = some (.tup ys) → b ≠ d := fun hb z => by rw [z, hod] at hb; cases hb
      exact ⟨dx, ot, pt, rt, gs, kk _ _ (fun z => by rw [z, hod] at g1; cases g1) g1, kk _ _ (nt g2) g2, kk _ _ (nt g3) g3, kk _ _ (nt g4) g4, RowsA.keep (fun b u hb h => kk _ _ (fun z => by
        obtain ⟨j, hj, rfl⟩ := List.getElem_of_mem hb
        obtain ⟨rw', _, hx⟩ := g5.get (List.getElem?_eq_getElem hj)
        exact nt hx z) h) g5⟩
    have hoD := kk _ _ n1 ho9
    have hpD := kk _ _ n2 hp9
    have hLD : LL HD r as c := keepLL hL9 kk
    have ePAD := kk _ _ nPAd ePA9
    have e1D := kk _ _ nA1d e19
    have hA3D := kk _ _ nA3d hL39.1
    have nT1 : TG ≠ A1 := fun z => by have y := k1 _ _ nA1d e19; rw [← z, hTG] at y; cases y
    have nT3 : TG ≠ A3 := fun z => by have y := k1 _ _ nA3d hL39.1; rw [← z, hTG] at y; cases y
    have f1 : ∀ {b : Addr} {u : HO}, H3 b = some u → b ≠ A1 := fun hb z => by rw [z, h1] at hb; cases hb
    have f3 : ∀ {b : Addr} {u : HO}, H3 b = some u → b ≠ A3 := fun hb z => by rw [z, nA3] at hb; cases hb
    have fas : ∀ b ∈ as, ∃ u, H3 b = some u := fun b hb => by
      obtain ⟨j, hj, rfl⟩ := List.getElem_of_mem hb
      obtain ⟨rw', _, hx⟩ := hL.2.get (List.getElem?_eq_getElem hj)
      exact ⟨_, hx⟩
    have gup : ∀ {X : Hp} {b : Addr} {ys : List V} {u : HO}, GmeAt C X x ow ps c → X b = some (.lst ys) → GmeAt C (upd X b u) x ow ps c := fun {X b ys u} hg hb => by
      obtain ⟨dx, ot, pt, rt, gs, g1, g2, g3, g4, g5⟩ := hg
      have ne : ∀ {a : Addr} {o : HO}, X a = some o → (∀ ys, o ≠ .lst ys) → a ≠ b := fun ha hn z => by rw [z, hb] at ha; exact hn _ (Option.some.inj ha).symm
      have nt : ∀ {a : Addr} {zs : List V}, X a = some (.tup zs) → (upd X b u) a = some (.tup zs) := fun ha => by rw [upd_ne (ne ha fun ys z => by cases z)]; exact ha
      exact ⟨dx, ot, pt, rt, gs, by rw [upd_ne (ne g1 fun ys z => by cases z)]; exact g1, nt g2, nt g3, nt g4, RowsA.keep (fun b' u' hb' h => by
        obtain ⟨j, hj, rfl⟩ := List.getElem_of_mem hb'
        obtain ⟨rw', _, hx⟩ := g5.get (List.getElem?_eq_getElem hj)
        rw [hx] at h
        obtain rfl := Option.some.inj h
        exact nt hx) g5⟩
    have lup : ∀ {X : Hp} {b : Addr} {u : HO}, (∀ {a : Addr} {w : HO}, H3 a = some w → a ≠ b) → LL X r as c → LL (upd X b u) r as c := fun {X b u} hn h => ⟨by rw [upd_ne (hn hL.1)]; exact h.1, RowsA.keep (fun b' u' hb' h' => by obtain ⟨w, hw⟩ := fas b' hb'; rw [upd_ne (hn hw)]; exact h') h.2⟩
    -- passed[0].append(7)
    refine ⟨_, rfl, PA, _, _, .ref A1, rfl, rfl, .of ePAD, rfl, .inl ⟨rfl, _, .of e1D⟩, A1, _, _, rfl, rfl, e1D, lenI (by omega), ?_⟩
    have hG1 := gup (u := .lst (ow.map V.int ++ [.int 7])) hGD e1D
    have hL1' := lup (u := .lst (ow.map V.int ++ [.int 7])) f1 hLD
    have ho1 : (upd HD A1 (.lst (ow.map V.int ++ [.int 7]))) o = _ := (upd_ne (f1 ho)).trans hoD
    have hp1 : (upd HD A1 (.lst (ow.map V.int ++ [.int 7]))) p = _ := (upd_ne (f1 hp)).trans hpD
    have hT1 : (upd HD A1 (.lst (ow.map V.int ++ [.int 7]))) TG = _ := (upd_ne nT1).trans eTD
    have hP1 : (upd HD A1 (.lst (ow.map V.int ++ [.int 7]))) PA = _ := (upd_ne nPA1).trans ePAD
    have hA31 : ∃ ys, (upd HD A1 (.lst (ow.map V.int ++ [.int 7]))) A3 = some (.lst ys) ∧ ys.length ≤ 10 := by
      by_cases z : A3 = A1
      · rw [z, upd_same]
        exact ⟨_, rfl, by rw [List.length_append, List.length_map]; show ow.length + 1 ≤ 10; omega⟩
      · rw [upd_ne z]
        exact ⟨_, hA3D, by rw [List.length_map, hL39.2.len]; omega⟩
    generalize upd HD A1 (.lst (ow.map V.int ++ [.int 7])) = HE at hG1 hL1' ho1 hp1 hT1 hP1 hA31 ⊢
    obtain ⟨ys, hA3E, yl⟩ := hA31
    refine ⟨_, rfl, PA, _, _, .ref A3, rfl, rfl, .of hP1, rfl, .inl ⟨rfl, _, .of hA3E⟩, by show 1 ≤ sizeLine; decide, fun w1 hw1 => ?_⟩
    have s5 := same_new (o := .lst [.int 7]) hw1
    have hA3F := s5 _ _ hA3E
    have hG2 : GmeAt C (upd HE w1 (.lst [.int 7])) x ow ps c := by
      obtain ⟨dx, ot, pt, rt, gs, g1, g2, g3, g4, g5⟩ := hG1
      exact ⟨dx, ot, pt, rt, gs, s5 _ _ g1, s5 _ _ g2, s5 _ _ g3, s5 _ _ g4, g5.same s5⟩
    have hL2' := hL1'.same s5
    have ho2 := s5 _ _ ho1
    have hp2 := s5 _ _ hp1
    have hT2 := s5 _ _ hT1
    generalize upd HE w1 (.lst [.int 7]) = HF at s5 hA3F hG2 hL2' ho2 hp2 hT2 ⊢
    refine ⟨A3, _, _, rfl, rfl, hA3F, Nat.lt_of_le_of_lt yl (by decide), ?_⟩
    have hG3 := gup (u := .lst (ys ++ [.ref w1])) hG2 hA3F
    have hL3' := lup (u := .lst (ys ++ [.ref w1])) f3 hL2'
    have ho3 : (upd HF A3 (.lst (ys ++ [.ref w1]))) o = _ := (upd_ne (f3 ho)).trans ho2
    have hp3 : (upd HF A3 (.lst (ys ++ [.ref w1]))) p = _ := (upd_ne (f3 hp)).trans hp2
    have hT3 : (upd HF A3 (.lst (ys ++ [.ref w1]))) TG = _ := (upd_ne nT3).trans hT2
    generalize upd HF A3 (.lst (ys ++ [.ref w1])) = HG at hG3 hL3' ho3 hp3 hT3 ⊢
    -- handed
    refine ⟨_, rfl, TG, _, rfl, .inl (.of hT3), fun HN hHN => ?_⟩
    have s6 := same_new (o := .lst (ts.map V.int)) hHN
    have eN := upd_same (H := HG) (a := HN) (o := .lst (ts.map V.int))
    have hG4 : GmeAt C (upd HG HN (.lst (ts.map V.int))) x ow ps c := by
      obtain ⟨dx, ot, pt, rt, gs, g1, g2, g3, g4, g5⟩ := hG3
      exact ⟨dx, ot, pt, rt, gs, s6 _ _ g1, s6 _ _ g2, s6 _ _ g3, s6 _ _ g4, g5.same s6⟩
    have hL4' := hL3'.same s6
    have ho4 := s6 _ _ ho3
    have hp4 := s6 _ _ hp3
    have hT4 := s6 _ _ hT3
    generalize upd HG HN (.lst (ts.map V.int)) = HH at s6 eN hG4 hL4' ho4 hp4 hT4 ⊢
    refine ⟨_, rfl, _, rfl, _, rfl, x, HN, pl, ow, ps, ts, c, rfl, hG4, hV, by omega, eN, by omega, fun hbad => ?_, fun hgood HI D f sI eD hlev hle => ?_⟩
    · have sI := Same.refl HH
      obtain ⟨dx, ot, pt, rt, gs, g1, g2, g3, g4, g5⟩ := id hG4
      refine ⟨_, rfl, _, rfl, _, _, dp_lst (sI _ _ eN), dp_lst (sI _ _ hT4), shaped_lst _, shaped_lst _, _, rfl, ite_f (by rw [eqv_lst, decide_eq_true rfl]; rfl) ?_⟩
      refine ⟨_, rfl, x, C, dx, _, _, rfl, sI _ _ g1, PC.cl, PC.no, gf_o _ _ _, ot, ow, 0, 2, rfl, sI _ _ g2, fun z hz => by have := hV.ow1 z hz; omega, ?_⟩
      refine ⟨_, rfl, ite_f (by simp) ?_⟩
      refine ⟨_, rfl, x, C, dx, _, _, rfl, sI _ _ g1, PC.cl, PC.no, gf_o _ _ _, ot, _, rfl, .inr (.of (sI _ _ g2)), fun L1 hL1 => ?_⟩
      have t1 := sI.trans (same_new (o := .lst (ow.map V.int)) hL1)
      have w1' := upd_same (H := HH) (a := L1) (o := .lst (ow.map V.int))
      have k1' := same_new (o := .lst (ow.map V.int)) hL1
      generalize upd HH L1 (.lst (ow.map V.int)) = X1 at t1 w1' k1' ⊢
      refine ⟨_, rfl, _, _, dp_lst w1', dp_lst (t1 _ _ ho4), shaped_lst _, shaped_lst _, _, rfl, ite_f (by rw [eqv_lst, decide_eq_true rfl]; rfl) ?_⟩
      refine ⟨_, rfl, x, C, dx, _, _, rfl, t1 _ _ g1, PC.cl, PC.np, gf_p _ _ _, pt, _, rfl, .inr (.of (t1 _ _ g3)), fun L2 hL2 => ?_⟩
      have t2 := t1.trans (same_new (o := .lst (ps.map V.int)) hL2)
      have k2' := k1'.trans (same_new (o := .lst (ps.map V.int)) hL2)
      have w2' := upd_same (H := X1) (a := L2) (o := .lst (ps.map V.int))
      generalize upd X1 L2 (.lst (ps.map V.int)) = X2 at t2 w2' k2' ⊢
      refine ⟨_, rfl, _, _, dp_lst w2', dp_lst (t2 _ _ hp4), shaped_lst _, shaped_lst _, _, rfl, ite_f (by rw [eqv_lst, decide_eq_true rfl]; rfl) ?_⟩
      refine ⟨_, rfl, x, C, dx, _, _, rfl, t2 _ _ g1, PC.cl, PC.nm, gf_m _ _ _, rt, rfl, ⟨_, .of (t2 _ _ g4)⟩, fun LF hLF => lc_tup (K := K) (a := rt) (xs := gs.map V.ref) (fun i H' => ∃ bs, Cpy X2 H' LF bs (c.take i)) ⟨[], cpy_zero hLF⟩ (fun i H' _ ⟨_, z, _⟩ => .of (z _ _ (t2 _ _ g4))) ?_ ?_⟩
      · rintro i v Hc hi ⟨bs, c2⟩
        obtain ⟨a, ha, rfl⟩ := refs_get hi
        obtain ⟨row, hrow', sr⟩ := g5.get ha
        have hil : i < c.length := (List.getElem?_eq_some_iff.mp hrow').1
        have bl := c2.2.1.2.len
        rw [List.length_take] at bl
        have nD : ∀ t, Hc t = none → LF ≠ t := fun t ht z => by
          have := c2.2.1.1
          rw [z, ht] at this
          cases this
        refine ⟨rfl, _, rfl, a, _, rfl, .inr (.of (c2.1 _ _ (t2 _ _ sr))), fun t ht => ⟨_, by rw [upd_ne (nD t ht)]; exact c2.2.1.1, by rw [List.length_map]; exact Nat.lt_of_le_of_lt (show bs.length ≤ 1000 by omega) (by decide), bs ++ [t], ?_⟩⟩
        rw [take_get hrow']
        have := cpy_step (row := row) c2 ht
        rw [List.map_append] at this
        exact this
      rintro Hc ⟨bs, c2⟩
      rw [List.length_map, g5.len, List.take_length] at c2
      refine ⟨_, rfl, _, _, .lst (.of c2.2.1.1) (dpRows c2.2.1.2), .lst (.of (c2.1 _ _ (t2 _ _ hL4'.1))) (dpRows (hL4'.2.same (t2.trans c2.1))), shaped_rws _, shaped_rws _, _, rfl, ite_f (by rw [SeqAt.eqv_refl _ (lay_rws c)]; rfl) ?_⟩
      have t3 := t2.trans c2.1
      clear t1 t2 w1' w2' k1' k2' c2
      refine ⟨_, rfl, TG, rfl, ⟨_, .of (t3 _ _ hT4)⟩, fun OU hOU => lc_list (K := K) (a := TG) (xs := ts.map V.int) (fun i H' => Same Hc H' ∧ ∃ xs : List Int, H' OU = some (.lst (xs.map V.int)) ∧ (xs = [] ↔ ∀ t ∈ ts.take i, 0 ≤ t ∧ t < (c.length : Int)) ∧ xs.length ≤ i) ⟨same_new hOU, [], upd_same, by simp, Nat.le_refl _⟩ (fun i H' _ ⟨z, _⟩ => .of (z _ _ (t3 _ _ hT4))) ?_ ?_⟩
      · rintro i v Hd hi ⟨s7, xs', e7, hx, xl⟩
        obtain ⟨z, hz, rfl⟩ := ints_get hi
        have il := (List.getElem?_eq_some_iff.mp hz).1
        have hput : ¬ (0 ≤ z ∧ z < (c.length : Int)) → Same Hc (upd Hd OU (.lst (xs'.map V.int ++ [.int z]))) ∧ ∃ xs : List Int, (upd Hd OU (.lst (xs'.map V.int ++ [.int z]))) OU = some (.lst (xs.map V.int)) ∧ (xs = [] ↔ ∀ t ∈ ts.take (i + 1), 0 ≤ t ∧ t < (c.length : Int)) ∧ xs.length ≤ i + 1 := fun hn => by
          refine ⟨fun b u hb => by rw [upd_ne (ne_of_none hb hOU)]; exact s7 _ _ hb, xs' ++ [z], by rw [upd_same, List.map_append]; rfl, ⟨fun k => by simp at k, fun k => absurd (k z (by rw [take_get hz]; simp)) hn⟩, by rw [List.length_append]; show xs'.length + 1 ≤ i + 1; omega⟩
        refine ⟨rfl, _, rfl, _, _, rfl, rfl, _, rfl, ite2 (fun k => ?_) (fun k => ?_)⟩
        · have k := of_decide_eq_true k
          exact ⟨_, rfl, _, e7, lenI (by omega), hput (by omega)⟩
        have k1 : ¬ z < 0 := fun y => k (decide_eq_true y)
        refine ⟨_, rfl, _, rfl, _, _, rfl, rfl, _, rfl, ite2 (fun k => ?_) (fun k => ?_)⟩
        · have k := of_decide_eq_true k
          exact ⟨_, rfl, _, e7, lenI (by omega), hput (by omega)⟩
        have k2 : ¬ (c.length : Int) ≤ z := fun y => k (decide_eq_true y)
        refine ⟨s7, xs', e7, ?_, by omega⟩
        rw [take_get hz, hx]
        constructor
        · intro h t ht
          rcases List.mem_append.mp ht with y | y
          · exact h t y
          · rw [List.mem_singleton.mp y]; omega
        · exact fun h t ht => h t (List.mem_append_left _ ht)
      rintro Hd ⟨s7, xs', e7, hx, xl⟩
      rw [List.length_map, List.take_length] at hx
      have t4 := t3.trans s7
      refine ⟨_, rfl, OU, _, rfl, .inl (.of e7), _, _, rfl, rfl, _, rfl, ?_⟩
      have hne : xs' ≠ [] := fun z => hbad (hx.mp z)
      have := List.length_pos_iff.mpr hne
      refine ite2 (fun _ => ?_) (fun k => absurd (decide_eq_true (by rw [List.length_map]; omega)) k)
      exact ⟨_, rfl, rfl, q _⟩
    · obtain ⟨dx, ot, pt, rt, gs, g1, g2, g3, g4, g5⟩ := id hG4
      refine ⟨_, rfl, _, rfl, _, _, dp_lst (sI _ _ eN), dp_lst (sI _ _ hT4), shaped_lst _, shaped_lst _, _, rfl, ite_f (by rw [eqv_lst, decide_eq_true rfl]; rfl) ?_⟩
      refine ⟨_, rfl, x, C, dx, _, _, rfl, sI _ _ g1, PC.cl, PC.no, gf_o _ _ _, ot, ow, 0, 2, rfl, sI _ _ g2, fun z hz => by have := hV.ow1 z hz; omega, ?_⟩
      refine ⟨_, rfl, ite_f (by simp) ?_⟩
      refine ⟨_, rfl, x, C, dx, _, _, rfl, sI _ _ g1, PC.cl, PC.no, gf_o _ _ _, ot, _, rfl, .inr (.of (sI _ _ g2)), fun L1 hL1 => ?_⟩
      have t1 := sI.trans (same_new (o := .lst (ow.map V.int)) hL1)
      have w1' := upd_same (H := HI) (a := L1) (o := .lst (ow.map V.int))
      have k1' := same_new (o := .lst (ow.map V.int)) hL1
      generalize upd HI L1 (.lst (ow.map V.int)) = X1 at t1 w1' k1' ⊢
      refine ⟨_, rfl, _, _, dp_lst w1', dp_lst (t1 _ _ ho4), shaped_lst _, shaped_lst _, _, rfl, ite_f (by rw [eqv_lst, decide_eq_true rfl]; rfl) ?_⟩
      refine ⟨_, rfl, x, C, dx, _, _, rfl, t1 _ _ g1, PC.cl, PC.np, gf_p _ _ _, pt, _, rfl, .inr (.of (t1 _ _ g3)), fun L2 hL2 => ?_⟩
      have t2 := t1.trans (same_new (o := .lst (ps.map V.int)) hL2)
      have k2' := k1'.trans (same_new (o := .lst (ps.map V.int)) hL2)
      have w2' := upd_same (H := X1) (a := L2) (o := .lst (ps.map V.int))
      generalize upd X1 L2 (.lst (ps.map V.int)) = X2 at t2 w2' k2' ⊢
      refine ⟨_, rfl, _, _, dp_lst w2', dp_lst (t2 _ _ hp4), shaped_lst _, shaped_lst _, _, rfl, ite_f (by rw [eqv_lst, decide_eq_true rfl]; rfl) ?_⟩
      refine ⟨_, rfl, x, C, dx, _, _, rfl, t2 _ _ g1, PC.cl, PC.nm, gf_m _ _ _, rt, rfl, ⟨_, .of (t2 _ _ g4)⟩, fun LF hLF => lc_tup (K := K) (a := rt) (xs := gs.map V.ref) (fun i H' => ∃ bs, Cpy X2 H' LF bs (c.take i)) ⟨[], cpy_zero hLF⟩ (fun i H' _ ⟨_, z, _⟩ => .of (z _ _ (t2 _ _ g4))) ?_ ?_⟩
      · rintro i v Hc hi ⟨bs, c2⟩
        obtain ⟨a, ha, rfl⟩ := refs_get hi
        obtain ⟨row, hrow', sr⟩ := g5.get ha
        have hil : i < c.length := (List.getElem?_eq_some_iff.mp hrow').1
        have bl := c2.2.1.2.len
        rw [List.length_take] at bl
        have nD : ∀ t, Hc t = none → LF ≠ t := fun t ht z => by
          have := c2.2.1.1
          rw [z, ht] at this
          cases this
        refine ⟨rfl, _, rfl, a, _, rfl, .inr (.of (c2.1 _ _ (t2 _ _ sr))), fun t ht => ⟨_, by rw [upd_ne (nD t ht)]; exact c2.2.1.1, by rw [List.length_map]; exact Nat.lt_of_le_of_lt (show bs.length ≤ 1000 by omega) (by decide), bs ++ [t], ?_⟩⟩
        rw [take_get hrow']
        have := cpy_step (row := row) c2 ht
        rw [List.map_append] at this
        exact this
      rintro Hc ⟨bs, c2⟩
      rw [List.length_map, g5.len, List.take_length] at c2
      refine ⟨_, rfl, _, _, .lst (.of c2.2.1.1) (dpRows c2.2.1.2), .lst (.of (c2.1 _ _ (t2 _ _ hL4'.1))) (dpRows (hL4'.2.same (t2.trans c2.1))), shaped_rws _, shaped_rws _, _, rfl, ite_f (by rw [SeqAt.eqv_refl _ (lay_rws c)]; rfl) ?_⟩
      have t3 := t2.trans c2.1
      have sHI : Same HI Hc := k2'.trans c2.1
      clear t1 t2 w1' w2' k1' k2' c2
      refine ⟨_, rfl, TG, rfl, ⟨_, .of (t3 _ _ hT4)⟩, fun OU hOU => lc_list (K := K) (a := TG) (xs := ts.map V.int) (fun i H' => Same Hc H' ∧ ∃ xs : List Int, H' OU = some (.lst (xs.map V.int)) ∧ (xs = [] ↔ ∀ t ∈ ts.take i, 0 ≤ t ∧ t < (c.length : Int)) ∧ xs.length ≤ i) ⟨same_new hOU, [], upd_same, by simp, Nat.le_refl _⟩ (fun i H' _ ⟨z, _⟩ => .of (z _ _ (t3 _ _ hT4))) ?_ ?_⟩
      · rintro i v Hd hi ⟨s7, xs', e7, hx, xl⟩
        obtain ⟨z, hz, rfl⟩ := ints_get hi
        have il := (List.getElem?_eq_some_iff.mp hz).1
        have hput : ¬ (0 ≤ z ∧ z < (c.length : Int)) → Same Hc (upd Hd OU (.lst (xs'.map V.int ++ [.int z]))) ∧ ∃ xs : List Int, (upd Hd OU (.lst (xs'.map V.int ++ [.int z]))) OU = some (.lst (xs.map V.int)) ∧ (xs = [] ↔ ∀ t ∈ ts.take (i + 1), 0 ≤ t ∧ t < (c.length : Int)) ∧ xs.length ≤ i + 1 := fun hn => by
          refine ⟨fun b u hb => by rw [upd_ne (ne_of_none hb hOU)]; exact s7 _ _ hb, xs' ++ [z], by rw [upd_same, List.map_append]; rfl, ⟨fun k => by simp at k, fun k => absurd (k z (by rw [take_get hz]; simp)) hn⟩, by rw [List.length_append]; show xs'.length + 1 ≤ i + 1; omega⟩
        refine ⟨rfl, _, rfl, _, _, rfl, rfl, _, rfl, ite2 (fun k => ?_) (fun k => ?_)⟩
        · have k := of_decide_eq_true k
          exact ⟨_, rfl, _, e7, lenI (by omega), hput (by omega)⟩
        have k1 : ¬ z < 0 := fun y => k (decide_eq_true y)
        refine ⟨_, rfl, _, rfl, _, _, rfl, rfl, _, rfl, ite2 (fun k => ?_) (fun k => ?_)⟩
        · have k := of_decide_eq_true k
          exact ⟨_, rfl, _, e7, lenI (by omega), hput (by omega)⟩
        have k2 : ¬ (c.length : Int) ≤ z := fun y => k (decide_eq_true y)
        refine ⟨s7, xs', e7, ?_, by omega⟩
        rw [take_get hz, hx]
        constructor
        · intro h t ht
          rcases List.mem_append.mp ht with y | y
          · exact h t y
          · rw [List.mem_singleton.mp y]; omega
        · exact fun h t ht => h t (List.mem_append_left _ ht)
      rintro Hd ⟨s7, xs', e7, hx, xl⟩
      rw [List.length_map, List.take_length] at hx
      have t4 := t3.trans s7
      refine ⟨_, rfl, OU, _, rfl, .inl (.of e7), _, _, rfl, rfl, _, rfl, ?_⟩
      obtain rfl := hx.mpr hgood
      refine ite2 (fun k => absurd (of_decide_eq_true k) (by decide)) (fun _ => ?_)
      have eDd := (show Same HI Hd from (sHI.trans s7)) _ _ eD
      refine ⟨_, rfl, _, _, _, _, true, rfl, .ty "list", .base (.lst eDd), kit_ty (by decide +kernel), true, rfl, ?_⟩
      refine ⟨_, rfl, _, rfl, _, rfl, _, rfl, _, rfl, o, r, TG, pl, as, ow, ps, ts, c, rfl, t4 _ _ ho4, ⟨t4 _ _ hL4'.1, hL4'.2.same t4⟩, t4 _ _ hT4, hV, by omega, by omega, fun HJ D' f' s8 eD' hrnd => ?_⟩
      refine ⟨_, _, dp_arr (s8 _ _ eDd), dp_arr eD', shaped_lst _, shaped_lst _, ?_⟩
      rw [eqv_lst, decide_eq_true]
      · exact q _
      refine List.map_congr_left fun k hk => ?_
      have hk := List.mem_range.mp hk
      exact ((hrnd k hk).eq (hlev k hk) (hle k hk)).symm
end

theorem all_mk {l : PySem.W.OpenLaw} {w : World} {K : PySem.W.Frag} {h : Heap} {mg : Str → Option Value} {fa : Addr} {f0 f1 f2 f3 f4 f5 f6 f7 f8 f9 f10 f11 f12 f13 f14 f15 cI cL C fI : Addr} (X : K.In h) (G : h.Ns mainGlobals mg) (hfa : mg "law" = some (.ref fa))
    {od0 an0 od1 an1 od2 an2 od3 an3 od4 an4 od5 an5 od6 an6 od7 an7 od8 an8 od9 an9 od10 an10 od11 an11 od12 an12 od13 an13 od14 an14 od15 an15 : Option Addr} {sl0 sl1 sl2 sl3 sl4 sl5 sl6 sl7 sl8 sl9 sl10 sl11 sl12 sl13 sl14 sl15 : Array (Option Value)} {oc0 kV0 dc0 pm0 cd0 ct0 oc1 kV1 dc1 pm1 cd1 ct1 oc2 kV2 dc2 pm2 cd2 ct2 oc3 kV3 dc3 pm3 cd3 ct3 oc4 kV4 dc4 pm4 cd4 ct4 oc5 kV5 dc5 pm5 cd5 ct5 oc6 kV6 dc6 pm6 cd6 ct6 oc7 kV7 dc7 pm7 cd7 ct7 oc8 kV8 dc8 pm8 cd8 ct8 oc9 kV9 dc9 pm9 cd9 ct9 oc10 kV10 dc10 pm10 cd10 ct10 oc11 kV11 dc11 pm11 cd11 ct11 oc12 kV12 dc12 pm12 cd12 ct12 oc13 kV13 dc13 pm13 cd13 ct13 oc14 kV14 dc14 pm14 cd14 ct14 oc15 kV15 dc15 pm15 cd15 ct15 : Value} {odI anI : Option Addr} {slI : Array (Option Value)} {ocI kVI dcI pmI cdI ctI : Value}
    (a0 : PySem.W.nsIn K mainGlobals "reversed_graph" = some (some (.ref f0))) (l0 : K.lookup f0 = some ⟨oc0, od0, .func (PySem.W.fnOf "reversed_graph" "reversed_graph" (defArgs s_reversed_graph) (defBody s_reversed_graph) (defScope s_reversed_graph) .none kV0 dc0 pm0 an0 cd0 ct0), sl0⟩) (c0 : PySem.W.codeIn K cd0 "reversed_graph" = true) (k0 : PySem.W.keepIn K (.ref f0) = true)
    (a1 : PySem.W.nsIn K mainGlobals "check_moves" = some (some (.ref f1))) (l1 : K.lookup f1 = some ⟨oc1, od1, .func (PySem.W.fnOf "check_moves" "check_moves" (defArgs s_check_moves) (defBody s_check_moves) (defScope s_check_moves) .none kV1 dc1 pm1 an1 cd1 ct1), sl1⟩) (c1 : PySem.W.codeIn K cd1 "check_moves" = true) (k1 : PySem.W.keepIn K (.ref f1) = true)
    (a2 : PySem.W.nsIn K mainGlobals "check_position" = some (some (.ref f2))) (l2 : K.lookup f2 = some ⟨oc2, od2, .func (PySem.W.fnOf "check_position" "check_position" (defArgs s_check_position) (defBody s_check_position) (defScope s_check_position) .none kV2 dc2 pm2 an2 cd2 ct2), sl2⟩) (c2 : PySem.W.codeIn K cd2 "check_position" = true) (k2 : PySem.W.keepIn K (.ref f2) = true)
    (a3 : PySem.W.nsIn K mainGlobals "distances" = some (some (.ref f3))) (l3 : K.lookup f3 = some ⟨oc3, od3, .func (PySem.W.fnOf "distances" "distances" (defArgs s_distances) (defBody s_distances) (defScope s_distances) .none kV3 dc3 pm3 an3 cd3 ct3), sl3⟩) (c3 : PySem.W.codeIn K cd3 "distances" = true) (k3 : PySem.W.keepIn K (.ref f3) = true)
    (a4 : PySem.W.nsIn K mainGlobals "_law_draws" = some (some (.ref f4))) (l4 : K.lookup f4 = some ⟨oc4, od4, .func (PySem.W.fnOf "_law_draws" "_law_draws" (defArgs s_law_draws) (defBody s_law_draws) (defScope s_law_draws) .none kV4 dc4 pm4 an4 cd4 ct4), sl4⟩) (c4 : PySem.W.codeIn K cd4 "_law_draws" = true) (k4 : PySem.W.keepIn K (.ref f4) = true)
    (a5 : PySem.W.nsIn K mainGlobals "_law_take" = some (some (.ref f5))) (l5 : K.lookup f5 = some ⟨oc5, od5, .func (PySem.W.fnOf "_law_take" "_law_take" (defArgs s_law_take) (defBody s_law_take) (defScope s_law_take) .none kV5 dc5 pm5 an5 cd5 ct5), sl5⟩) (c5 : PySem.W.codeIn K cd5 "_law_take" = true) (k5 : PySem.W.keepIn K (.ref f5) = true)
    (a6 : PySem.W.nsIn K mainGlobals "_law_is_integer" = some (some (.ref f6))) (l6 : K.lookup f6 = some ⟨oc6, od6, .func (PySem.W.fnOf "_law_is_integer" "_law_is_integer" (defArgs s_law_is_integer) (defBody s_law_is_integer) (defScope s_law_is_integer) .none kV6 dc6 pm6 an6 cd6 ct6), sl6⟩) (c6 : PySem.W.codeIn K cd6 "_law_is_integer" = true) (k6 : PySem.W.keepIn K (.ref f6) = true)
    (a7 : PySem.W.nsIn K mainGlobals "_law_integers" = some (some (.ref f7))) (l7 : K.lookup f7 = some ⟨oc7, od7, .func (PySem.W.fnOf "_law_integers" "_law_integers" (defArgs s_law_integers) (defBody s_law_integers) (defScope s_law_integers) .none kV7 dc7 pm7 an7 cd7 ct7), sl7⟩) (c7 : PySem.W.codeIn K cd7 "_law_integers" = true) (k7 : PySem.W.keepIn K (.ref f7) = true)
    (a8 : PySem.W.nsIn K mainGlobals "_law_ascending" = some (some (.ref f8))) (l8 : K.lookup f8 = some ⟨oc8, od8, .func (PySem.W.fnOf "_law_ascending" "_law_ascending" (defArgs s_law_ascending) (defBody s_law_ascending) (defScope s_law_ascending) .none kV8 dc8 pm8 an8 cd8 ct8), sl8⟩) (c8 : PySem.W.codeIn K cd8 "_law_ascending" = true) (k8 : PySem.W.keepIn K (.ref f8) = true)
    (a9 : PySem.W.nsIn K mainGlobals "_law_flat" = some (some (.ref f9))) (l9 : K.lookup f9 = some ⟨oc9, od9, .func (PySem.W.fnOf "_law_flat" "_law_flat" (defArgs s_law_flat) (defBody s_law_flat) (defScope s_law_flat) .none kV9 dc9 pm9 an9 cd9 ct9), sl9⟩) (c9 : PySem.W.codeIn K cd9 "_law_flat" = true) (k9 : PySem.W.keepIn K (.ref f9) = true)
    (a10 : PySem.W.nsIn K mainGlobals "_law_game" = some (some (.ref f10))) (l10 : K.lookup f10 = some ⟨oc10, od10, .func (PySem.W.fnOf "_law_game" "_law_game" (defArgs s_law_game) (defBody s_law_game) (defScope s_law_game) .none kV10 dc10 pm10 an10 cd10 ct10), sl10⟩) (c10 : PySem.W.codeIn K cd10 "_law_game" = true) (k10 : PySem.W.keepIn K (.ref f10) = true)
    (a11 : PySem.W.nsIn K mainGlobals "_law_outcome" = some (some (.ref f11))) (l11 : K.lookup f11 = some ⟨oc11, od11, .func (PySem.W.fnOf "_law_outcome" "_law_outcome" (defArgs s_law_outcome) (defBody s_law_outcome) (defScope s_law_outcome) .none kV11 dc11 pm11 an11 cd11 ct11), sl11⟩) (c11 : PySem.W.codeIn K cd11 "_law_outcome" = true) (k11 : PySem.W.keepIn K (.ref f11) = true)
    (a12 : PySem.W.nsIn K mainGlobals "_law_distances" = some (some (.ref f12))) (l12 : K.lookup f12 = some ⟨oc12, od12, .func (PySem.W.fnOf "_law_distances" "_law_distances" (defArgs s_law_distances) (defBody s_law_distances) (defScope s_law_distances) .none kV12 dc12 pm12 an12 cd12 ct12), sl12⟩) (c12 : PySem.W.codeIn K cd12 "_law_distances" = true) (k12 : PySem.W.keepIn K (.ref f12) = true)
    (a13 : PySem.W.nsIn K mainGlobals "_law_expected" = some (some (.ref f13))) (l13 : K.lookup f13 = some ⟨oc13, od13, .func (PySem.W.fnOf "_law_expected" "_law_expected" (defArgs s_law_expected) (defBody s_law_expected) (defScope s_law_expected) .none kV13 dc13 pm13 an13 cd13 ct13), sl13⟩) (c13 : PySem.W.codeIn K cd13 "_law_expected" = true) (k13 : PySem.W.keepIn K (.ref f13) = true)
    (a14 : PySem.W.nsIn K mainGlobals "_law_spoil" = some (some (.ref f14))) (l14 : K.lookup f14 = some ⟨oc14, od14, .func (PySem.W.fnOf "_law_spoil" "_law_spoil" (defArgs s_law_spoil) (defBody s_law_spoil) (defScope s_law_spoil) .none kV14 dc14 pm14 an14 cd14 ct14), sl14⟩) (c14 : PySem.W.codeIn K cd14 "_law_spoil" = true) (k14 : PySem.W.keepIn K (.ref f14) = true)
    (a15 : PySem.W.nsIn K mainGlobals "law" = some (some (.ref f15))) (l15 : K.lookup f15 = some ⟨oc15, od15, .func (PySem.W.fnOf "law" "law" (defArgs s_law) (defBody s_law) (defScope s_law) .none kV15 dc15 pm15 an15 cd15 ct15), sl15⟩) (c15 : PySem.W.codeIn K cd15 "law" = true) (k15 : PySem.W.keepIn K (.ref f15) = true)
    (z0 : PySem.W.nsIn K mainGlobals "bool" = some none) (z1 : PySem.W.nsIn K mainGlobals "enumerate" = some none) (z2 : PySem.W.nsIn K mainGlobals "int" = some none) (z3 : PySem.W.nsIn K mainGlobals "isinstance" = some none) (z4 : PySem.W.nsIn K mainGlobals "len" = some none) (z5 : PySem.W.nsIn K mainGlobals "list" = some none) (z6 : PySem.W.nsIn K mainGlobals "max" = some none) (z7 : PySem.W.nsIn K mainGlobals "min" = some none) (z8 : PySem.W.nsIn K mainGlobals "range" = some none) (z9 : PySem.W.nsIn K mainGlobals "set" = some none) (z10 : PySem.W.nsIn K mainGlobals "sorted" = some none) (z11 : PySem.W.nsIn K mainGlobals "tuple" = some none) (xa : PySem.W.nsIn K mainGlobals "InvalidGame" = some (some (.ref cI))) (xb : PySem.W.excIn K cI [.type "ValueError", .type "Exception", .type "BaseException", .type "object"] "ValueError.__new__" = true) (xc : PySem.W.keepIn K (.ref cI) = true) (xd : PySem.W.typeIn K (.ref cI) = some (.type "type")) (xe : PySem.W.subIn K (.ref cI) (.ref cI) = some true) (xf : PySem.W.findIn K (.ref cI) "__getattribute__" = some (some (.builtin "BaseException.__getattribute__"))) (xg : PySem.W.findIn K (.ref cI) "__getattr__" = some none) (xh : PySem.W.subIn K (.ref cI) (.type "BaseException") = some true) (xi : PySem.W.hasDictIn K cI = true) (xj : PySem.W.findIn K (.ref cI) "__class__" = some (some (.builtin "object.__class__"))) (xk : PySem.W.specialIn K (.builtin "object.__class__") "__get__" = some (some (.builtin "getset_descriptor.__get__"))) (xl : PySem.W.takesIn K (.builtin "object.__class__") = some true) (xm : PySem.W.mroIn K cI (.type "object") = some true) (wa : PySem.W.nsIn K mainGlobals "InvalidPosition" = some (some (.ref cL))) (wb : PySem.W.excIn K cL [.type "ValueError", .type "Exception", .type "BaseException", .type "object"] "ValueError.__new__" = true) (wc : PySem.W.keepIn K (.ref cL) = true) (wd : PySem.W.typeIn K (.ref cL) = some (.type "type")) (we : PySem.W.subIn K (.ref cL) (.ref cL) = some true) (wf : PySem.W.findIn K (.ref cL) "__getattribute__" = some (some (.builtin "BaseException.__getattribute__"))) (wg : PySem.W.findIn K (.ref cL) "__getattr__" = some none) (wh : PySem.W.subIn K (.ref cL) (.type "BaseException") = some true) (wi : PySem.W.hasDictIn K cL = true) (wj : PySem.W.findIn K (.ref cL) "__class__" = some (some (.builtin "object.__class__"))) (wk : PySem.W.specialIn K (.builtin "object.__class__") "__get__" = some (some (.builtin "getset_descriptor.__get__"))) (wl : PySem.W.takesIn K (.builtin "object.__class__") = some true) (wm : PySem.W.mroIn K cL (.type "object") = some true) (ya : PySem.W.nsIn K mainGlobals "Game" = some (some (.ref C))) (yb : PySem.W.plainGet K C Str.empty = true) (yc : PySem.W.hasDictIn K C = true) (yd : PySem.W.plainOver K C = true) (ye : PySem.W.findIn K (.ref C) "__setattr__" = some (some (.builtin "object.__setattr__"))) (yf : PySem.W.findIn K (.ref C) "owners" = some none) (yg : PySem.W.findIn K (.ref C) "priorities" = some none) (yh : PySem.W.findIn K (.ref C) "moves" = some none) (yj : PySem.W.makesIn K C = true) (yk : PySem.W.findIn K (.ref C) "__init__" = some (some (.ref fI))) (yl : PySem.W.isFn K (.ref fI) = true) (ym : PySem.W.keepIn K (.ref C) = true) (yn : K.lookup fI = some ⟨ocI, odI, .func (PySem.W.fnOf "__init__" "Game.__init__" (defArgs s_Game_init) (defBody s_Game_init) (defScope s_Game_init) .none kVI dcI pmI anI cdI ctI), slI⟩) (yo : PySem.W.codeIn K cdI "Game.__init__" = true) (yp : PySem.W.keepIn K (.ref fI) = true) :
    ∃ fd : FuncData, (∀ (s : Shared) (v : Value), BindsTo s fd ⟨[v], []⟩ [("script", v)]) ∧ ∀ base : Heap, K.In base → base.Ns mainGlobals mg → FnOk l.prog w K mg base CX0 8 fa fd ["script"] (spLaw K) := by
  have e := hfa.symm.trans (PySem.W.mg_of X G a15)
  cases e
  have T : Txt K mg := ⟨⟨f0, _, fun_mk (st := s_reversed_graph) l0 c0 k0, PySem.W.mg_of X G a0, (fun_mk (st := s_reversed_graph) l0 c0 k0).binds fun _ _ _ _ _ _ us hl => match us, hl with | [_], _ => rfl⟩, ⟨f1, _, fun_mk (st := s_check_moves) l1 c1 k1, PySem.W.mg_of X G a1, (fun_mk (st := s_check_moves) l1 c1 k1).binds fun _ _ _ _ _ _ us hl => match us, hl with | [_, _], _ => rfl⟩, ⟨f2, _, fun_mk (st := s_check_position) l2 c2 k2, PySem.W.mg_of X G a2, (fun_mk (st := s_check_position) l2 c2 k2).binds fun _ _ _ _ _ _ us hl => match us, hl with | [_, _], _ => rfl⟩, ⟨f3, _, fun_mk (st := s_distances) l3 c3 k3, PySem.W.mg_of X G a3, (fun_mk (st := s_distances) l3 c3 k3).binds fun _ _ _ _ _ _ us hl => match us, hl with | [_, _, _], _ => rfl⟩, ⟨f4, _, fun_mk (st := s_law_draws) l4 c4 k4, PySem.W.mg_of X G a4, (fun_mk (st := s_law_draws) l4 c4 k4).binds fun _ _ _ _ _ _ us hl => match us, hl with | [_, _], _ => rfl⟩, ⟨f5, _, fun_mk (st := s_law_take) l5 c5 k5, PySem.W.mg_of X G a5, (fun_mk (st := s_law_take) l5 c5 k5).binds fun _ _ _ _ _ _ us hl => match us, hl with | [_, _], _ => rfl⟩, ⟨f6, _, fun_mk (st := s_law_is_integer) l6 c6 k6, PySem.W.mg_of X G a6, (fun_mk (st := s_law_is_integer) l6 c6 k6).binds fun _ _ _ _ _ _ us hl => match us, hl with | [_], _ => rfl⟩, ⟨f7, _, fun_mk (st := s_law_integers) l7 c7 k7, PySem.W.mg_of X G a7, (fun_mk (st := s_law_integers) l7 c7 k7).binds fun _ _ _ _ _ _ us hl => match us, hl with | [_, _, _], _ => rfl⟩, ⟨f8, _, fun_mk (st := s_law_ascending) l8 c8 k8, PySem.W.mg_of X G a8, (fun_mk (st := s_law_ascending) l8 c8 k8).binds fun _ _ _ _ _ _ us hl => match us, hl with | [_, _, _], _ => rfl⟩, ⟨f9, _, fun_mk (st := s_law_flat) l9 c9 k9, PySem.W.mg_of X G a9, (fun_mk (st := s_law_flat) l9 c9 k9).binds fun _ _ _ _ _ _ us hl => match us, hl with | [_], _ => rfl⟩, ⟨f10, _, fun_mk (st := s_law_game) l10 c10 k10, PySem.W.mg_of X G a10, (fun_mk (st := s_law_game) l10 c10 k10).binds fun _ _ _ _ _ _ us hl => match us, hl with | [_, _], _ => rfl⟩, ⟨f11, _, fun_mk (st := s_law_outcome) l11 c11 k11, PySem.W.mg_of X G a11, (fun_mk (st := s_law_outcome) l11 c11 k11).binds fun _ _ _ _ _ _ us hl => match us, hl with | [_, _, _], _ => rfl⟩, ⟨f12, _, fun_mk (st := s_law_distances) l12 c12 k12, PySem.W.mg_of X G a12, (fun_mk (st := s_law_distances) l12 c12 k12).binds fun _ _ _ _ _ _ us hl => match us, hl with | [_, _, _], _ => rfl⟩, ⟨f13, _, fun_mk (st := s_law_expected) l13 c13 k13, PySem.W.mg_of X G a13, (fun_mk (st := s_law_expected) l13 c13 k13).binds fun _ _ _ _ _ _ us hl => match us, hl with | [_, _, _, _], _ => rfl⟩, ⟨f14, _, fun_mk (st := s_law_spoil) l14 c14 k14, PySem.W.mg_of X G a14, (fun_mk (st := s_law_spoil) l14 c14 k14).binds fun _ _ _ _ _ _ us hl => match us, hl with | [_, _, _, _], _ => rfl⟩, PySem.W.mg_none_of X G z0, PySem.W.mg_none_of X G z1, PySem.W.mg_none_of X G z2, PySem.W.mg_none_of X G z3, PySem.W.mg_none_of X G z4, PySem.W.mg_none_of X G z5, PySem.W.mg_none_of X G z6, PySem.W.mg_none_of X G z7, PySem.W.mg_none_of X G z8, PySem.W.mg_none_of X G z9, PySem.W.mg_none_of X G z10, PySem.W.mg_none_of X G z11, ⟨cI, cL, C, fI, _, ⟨PySem.W.mg_of X G xa, xb, xc, xd, xe, ⟨xf, xg, xh, xi, xj, xk, xl, xm⟩⟩, ⟨PySem.W.mg_of X G wa, wb, wc, wd, we, ⟨wf, wg, wh, wi, wj, wk, wl, wm⟩⟩, ⟨⟨yb, yc, yd, ye⟩, yf, yg, yh⟩, ⟨yj, yk, yl, ym⟩, PySem.W.mg_of X G ya, fun_mk (st := s_Game_init) yn yo yp, (fun_mk (st := s_Game_init) yn yo yp).binds fun _ _ _ _ _ _ us hl => match us, hl with | [_, _, _, _], _ => rfl⟩⟩
  exact ⟨_, fun s v => .of_eq rfl, fun base _ _ => ok_law (fun_mk (st := s_law) l15 c15 k15) T⟩
end My
open PySem PySem.W PyProof.Rows
set_option maxHeartbeats 0 in
theorem PySem.Challenge.cw_reactivesynth_k34_game_and_distances_holds : PySem.Challenge.rw_reactivesynth_k34_game_and_distances.Holds := by
  w_on; o_law; k_head; (case hw => w_witness2)
  k_fill
  refine L2.walk_of (l := PySem.Challenge.rw_reactivesynth_k34_game_and_distances) (n := 63) (k := 8) (x := "script") (CX := fun _ => L2.CX0) (sp := fun w => My.spLaw _) rfl (by decide) rfl ⟨rfl, by decide, by decide⟩ (fun w h Y => PySem.W.kIn_of Y) ?F (fun _ _ a ns hl _ hS => ⟨a, ns, rfl, hS, hl, fun _ => rfl⟩) (fun _ _ _ _ _ h => h)
  case F =>
    intro w mg fa h KX G hmg
    refine' My.all_mk KX G hmg ?a0 ?l0 ?c0 ?k0 ?a1 ?l1 ?c1 ?k1 ?a2 ?l2 ?c2 ?k2 ?a3 ?l3 ?c3 ?k3 ?a4 ?l4 ?c4 ?k4 ?a5 ?l5 ?c5 ?k5 ?a6 ?l6 ?c6 ?k6 ?a7 ?l7 ?c7 ?k7 ?a8 ?l8 ?c8 ?k8 ?a9 ?l9 ?c9 ?k9 ?a10 ?l10 ?c10 ?k10 ?a11 ?l11 ?c11 ?k11 ?a12 ?l12 ?c12 ?k12 ?a13 ?l13 ?c13 ?k13 ?a14 ?l14 ?c14 ?k14 ?a15 ?l15 ?c15 ?k15 ?z0 ?z1 ?z2 ?z3 ?z4 ?z5 ?z6 ?z7 ?z8 ?z9 ?z10 ?z11 ?xa ?xb ?xc ?xd ?xe ?xf ?xg ?xh ?xi ?xj ?xk ?xl ?xm ?wa ?wb ?wc ?wd ?we ?wf ?wg ?wh ?wi ?wj ?wk ?wl ?wm ?ya ?yb ?yc ?yd ?ye ?yf ?yg ?yh ?yj ?yk ?yl ?ym ?yn ?yo ?yp
    (case a0 => k_is); (case l0 => k_is); (case c0 => k_is); (case k0 => k_is); (case a1 => k_is); (case l1 => k_is); (case c1 => k_is); (case k1 => k_is); (case a2 => k_is); (case l2 => k_is); (case c2 => k_is); (case k2 => k_is); (case a3 => k_is); (case l3 => k_is); (case c3 => k_is); (case k3 => k_is); (case a4 => k_is); (case l4 => k_is); (case c4 => k_is); (case k4 => k_is); (case a5 => k_is); (case l5 => k_is); (case c5 => k_is); (case k5 => k_is); (case a6 => k_is); (case l6 => k_is); (case c6 => k_is); (case k6 => k_is); (case a7 => k_is); (case l7 => k_is); (case c7 => k_is); (case k7 => k_is); (case a8 => k_is); (case l8 => k_is); (case c8 => k_is); (case k8 => k_is); (case a9 => k_is); (case l9 => k_is); (case c9 => k_is); (case k9 => k_is); (case a10 => k_is); (case l10 => k_is); (case c10 => k_is); (case k10 => k_is); (case a11 => k_is); (case l11 => k_is); (case c11 => k_is); (case k11 => k_is); (case a12 => k_is); (case l12 => k_is); (case c12 => k_is); (case k12 => k_is); (case a13 => k_is); (case l13 => k_is); (case c13 => k_is); (case k13 => k_is); (case a14 => k_is); (case l14 => k_is); (case c14 => k_is); (case k14 => k_is); (case a15 => k_is); (case l15 => k_is); (case c15 => k_is); (case k15 => k_is); (case z0 => k_is); (case z1 => k_is); (case z2 => k_is); (case z3 => k_is); (case z4 => k_is); (case z5 => k_is); (case z6 => k_is); (case z7 => k_is); (case z8 => k_is); (case z9 => k_is); (case z10 => k_is); (case z11 => k_is); (case xa => first | rfl | k_is); (case xb => first | k_exc | rfl | k_is); (case xc => first | rfl | k_is); (case xd => first | rfl | k_is); (case xe => first | rfl | k_is); (case xf => first | rfl | k_is); (case xg => first | rfl | k_is); (case xh => first | rfl | k_is); (case xi => first | rfl | k_is); (case xj => first | rfl | k_is); (case xk => first | rfl | k_is); (case xl => first | rfl | k_is); (case xm => first | rfl | k_is); (case wa => k_is); (case wb => first | k_exc | rfl | k_is); (case wc => k_is); (case wd => k_is); (case we => k_is); (case wf => k_is); (case wg => k_is); (case wh => k_is); (case wi => k_is); (case wj => k_is); (case wk => k_is); (case wl => k_is); (case wm => k_is); (case ya => k_is); (case yb => k_is); (case yc => k_is); (case yd => k_is); (case ye => k_is); (case yf => k_is); (case yg => k_is); (case yh => k_is); (case yj => k_is); (case yk => k_is); (case yl => k_is); (case ym => k_is); (case yn => k_is); (case yo => k_is); (case yp => k_is)
