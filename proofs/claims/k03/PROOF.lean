import PyProof.Rows.All
import Wide.All
import OpenK.AllK
import Wide.FinOn
import HandS.ForMost
import HandS.ForExc
import HandS.ExcIs
import HandS.ExcOwn
import HandS.WordsExc
import HandS.TryMany
import HandS.TryOnly
import HandS.Codes
import HandS.IsInst
import HandS.TupAny
import HandS.TupMul
import HandS.SortKw
import KE.KMinKey
import KE.KMathG
import PyProof.WalksMore
import PySem.Challenge.RW_reactivesynth_k03_relabel_and_combine
set_option Elab.async false
set_option linter.all false
set_option maxRecDepth 100000
set_option maxHeartbeats 4000000
namespace Wd
/-- m is the length of a proper border of the first k letters -/
def Bd (w : Nat → Int) (k m : Nat) : Prop := m < k ∧ ∀ i, i < m → w i = w (k - m + i)
/-- .. the greatest -/
def Lg (w : Nat → Int) (k m : Nat) : Prop := Bd w k m ∧ ∀ j, Bd w k j → j ≤ m
theorem Bd.zero {w : Nat → Int} {k : Nat} (h : 0 < k) : Bd w k 0 := ⟨h, fun i hi => absurd hi (Nat.not_lt_zero i)⟩
theorem Bd.down {w : Nat → Int} {k m : Nat} (h : Bd w (k + 1) (m + 1)) : Bd w k m ∧ w m = w k := by
  obtain ⟨h1, h2⟩ := h
  refine ⟨⟨by omega, fun i hi => ?_⟩, ?_⟩
  · have := h2 i (by omega)
    rw [this]
    congr 1
    omega
  · have := h2 m (by omega)
    rw [this]
    congr 1
    omega
theorem Bd.up {w : Nat → Int} {k m : Nat} (h : Bd w k m) (e : w m = w k) : Bd w (k + 1) (m + 1) := by
  obtain ⟨h1, h2⟩ := h
  refine ⟨by omega, fun i hi => ?_⟩
  rcases Nat.lt_or_ge i m with c | c
  · rw [h2 i c]
    congr 1
    omega
  · have : i = m := by omega
    subst this
    rw [e]
    congr 1
    omega
theorem Bd.inner {w : Nat → Int} {k b j : Nat} (h : Bd w k b) (g : Bd w k j) (l : j < b) : Bd w b j := by
  obtain ⟨h1, h2⟩ := h
  obtain ⟨g1, g2⟩ := g
  refine ⟨l, fun i hi => ?_⟩
  rw [g2 i hi, h2 (b - j + i) (by omega)]
  congr 1
  omega
theorem Bd.trans {w : Nat → Int} {k b j : Nat} (h : Bd w k b) (g : Bd w b j) : Bd w k j := by
  obtain ⟨h1, h2⟩ := h
  obtain ⟨g1, g2⟩ := g
  refine ⟨by omega, fun i hi => ?_⟩
  rw [g2 i hi, h2 (b - j + i) (by omega)]
  congr 1
  omega
/-- what the inner loop keeps: b is a border of the first k letters, and no border of the first k + 1 is longer than b + 1 -/
def In (w : Nat → Int) (k b : Nat) : Prop := Bd w k b ∧ ∀ j, Bd w (k + 1) (j + 1) → j ≤ b
theorem In.start {w : Nat → Int} {k b : Nat} (h : Lg w k b) : In w k b := ⟨h.1, fun j hj => h.2 j hj.down.1⟩
theorem In.step {w : Nat → Int} {k b c : Nat} (h : In w k b) (hb : 0 < b) (ne : w k ≠ w b) (g : Lg w b c) : In w k c ∧ c < b := by
  refine ⟨⟨h.1.trans g.1, fun j hj => ?_⟩, g.1.1⟩
  have h1 := h.2 j hj
  obtain ⟨h2, h3⟩ := hj.down
  have : j ≠ b := fun z => ne (by rw [← h3, z])
  exact g.2 j (h.1.inner h2 (by omega))
theorem In.found {w : Nat → Int} {k b : Nat} (h : In w k b) (e : w k = w b) : Lg w (k + 1) (b + 1) := by
  refine ⟨h.1.up e.symm, fun j hj => ?_⟩
  cases j with
  | zero => omega
  | succ j => exact Nat.succ_le_succ (h.2 j hj)
theorem In.none {w : Nat → Int} {k : Nat} (h : In w k 0) (ne : w k ≠ w 0) : Lg w (k + 1) 0 := by
  refine ⟨Bd.zero (by omega), fun j hj => ?_⟩
  cases j with
  | zero => omega
  | succ j =>
    have h1 := h.2 j hj
    have : j = 0 := by omega
    subst this
    exact absurd hj.down.2.symm ne
/-! periods -/
/-- the letters of the word without end that repeats the first n letters -/
def cyc (w : Nat → Int) (n i : Nat) : Int := w (i % n)
def Rp (w : Nat → Int) (n p : Nat) : Prop := ∀ i, cyc w n (i + p) = cyc w n i
theorem Rp.mul {w : Nat → Int} {n p : Nat} (h : Rp w n p) : ∀ k i, cyc w n (i + k * p) = cyc w n i
  | 0, i => by rw [Nat.zero_mul, Nat.add_zero]
  | k + 1, i => by
    rw [Nat.succ_mul, ← Nat.add_assoc, h, h.mul k i]
theorem Rp.mod {w : Nat → Int} {n p i : Nat} (h : Rp w n p) : cyc w n i = cyc w n (i % p) := by
  have := h.mul (i / p) (i % p)
  rw [Nat.mul_comm, Nat.mod_add_div] at this
  exact this
theorem cyc_lt {w : Nat → Int} {n i : Nat} (h : i < n) : cyc w n i = w i := by
  unfold cyc
  rw [Nat.mod_eq_of_lt h]
theorem rp_self (w : Nat → Int) (n : Nat) : Rp w n n := fun i => by
  unfold cyc
  rw [Nat.add_mod_right]
/-- a period of the finite word that divides its length is one of the word without end -/
theorem rp_of {w : Nat → Int} {n p : Nat} (hp : 0 < p) (hd : p ∣ n) (hn : 0 < n) (h : ∀ i, i + p < n → w i = w (i + p)) : Rp w n p := by
  have red : ∀ k i, i + k * p < n → w (i + k * p) = w i := by
    intro k
    induction k with
    | zero => intro i _; rw [Nat.zero_mul, Nat.add_zero]
    | succ k ih =>
      intro i hi
      rw [Nat.succ_mul] at hi ⊢
      rw [← Nat.add_assoc, ← h (i + k * p) (by omega)]
      exact ih i (by omega)
  have toMod : ∀ i, cyc w n i = w (i % p) := by
    intro i
    unfold cyc
    have h1 : i % n < n := Nat.mod_lt _ hn
    have e : i % n % p + (i % n / p) * p = i % n := by
      rw [Nat.mul_comm]
      exact Nat.mod_add_div _ _
    have h2 := red (i % n / p) (i % n % p) (by rw [e]; exact h1)
    rw [e] at h2
    rw [h2, Nat.mod_mod_of_dvd _ hd]
  intro i
  rw [toMod, toMod, Nat.add_mod_right]
/-- the least repetition: r divides n, the word repeats its first r letters, and no shorter one does -/
structure Least (w : Nat → Int) (n r : Nat) : Prop where
  pos : 0 < r
  dvd : r ∣ n
  rp : Rp w n r
  min : ∀ p, 0 < p → p ∣ n → Rp w n p → r ≤ p
theorem least_of {w : Nat → Int} {n b : Nat} (hn : 0 < n) (h : Lg w n b) : Least w n (if n % (n - b) = 0 then n - b else n) := by
  obtain ⟨⟨hb, h1⟩, h2⟩ := h
  have hs : 0 < n - b := by omega
  -- n - b is the least period of the finite word
  have per : ∀ i, i + (n - b) < n → w i = w (i + (n - b)) := fun i hi => by
    have := h1 i (by omega)
    rw [this]
    congr 1
    omega
  have low : ∀ p, 0 < p → p ≤ n → (∀ i, i + p < n → w i = w (i + p)) → n - b ≤ p := fun p hp hpn hq => by
    have := h2 (n - p) ⟨by omega, fun i hi => by
      have := hq i (by omega)
      rw [this]
      congr 1
      omega⟩
    omega
  have fin : ∀ p, Rp w n p → ∀ i, i + p < n → w i = w (i + p) := fun p hp i hi => by
    have := hp i
    rw [cyc_lt hi, cyc_lt (by omega)] at this
    exact this.symm
  -- a shorter repetition makes n - b a repetition
  have key : ∀ p, 0 < p → p ∣ n → p < n → Rp w n p → n % (n - b) = 0 ∧ n - b ≤ p := by
    intro p hp hd hlt hr
    have le := low p hp (by omega) (fin p hr)
    obtain ⟨q, hq⟩ := hd
    have hq2 : 2 ≤ q := by
      rcases Nat.lt_or_ge q 2 with c | c
      · have : q = 0 ∨ q = 1 := by omega
        rcases this with z | z
        · rw [z] at hq; omega
        · rw [z] at hq; omega
      · exact c
    have h2p : 2 * p ≤ n := by
      rw [hq, Nat.mul_comm 2 p]
      exact Nat.mul_le_mul_left p hq2
    have rs : Rp w n (n - b) := by
      intro i
      have e1 : cyc w n (i + (n - b)) = cyc w n (i % p + (n - b)) := by
        have := hr.mul (i / p) (i % p + (n - b))
        rw [← this]
        congr 1
        have := Nat.mod_add_div i p
        rw [Nat.mul_comm (i / p) p]
        omega
      have hm : i % p < p := Nat.mod_lt _ hp
      rw [e1, hr.mod (i := i), cyc_lt (show i % p + (n - b) < n by omega), cyc_lt (show i % p < n by omega)]
      exact (per _ (by omega)).symm
    -- p is a multiple of n - b
    have hmod : p % (n - b) = 0 := by
      rcases Nat.eq_zero_or_pos (p % (n - b)) with z | z
      · exact z
      · have lt : p % (n - b) < n - b := Nat.mod_lt _ hs
        have rm : Rp w n (p % (n - b)) := by
          intro i
          have a := rs.mul (p / (n - b)) (i + p % (n - b))
          have e : i + p % (n - b) + p / (n - b) * (n - b) = i + p := by
            rw [Nat.mul_comm, Nat.add_assoc, Nat.mod_add_div]
          rw [e] at a
          rw [← a]
          exact hr i
        have := low _ z (by omega) (fin _ rm)
        omega
    refine ⟨?_, le⟩
    exact Nat.mod_eq_zero_of_dvd (Nat.dvd_trans (Nat.dvd_of_mod_eq_zero hmod) ⟨q, hq⟩)
  by_cases c : n % (n - b) = 0
  · rw [if_pos c]
    refine ⟨hs, Nat.dvd_of_mod_eq_zero c, rp_of hs (Nat.dvd_of_mod_eq_zero c) hn per, fun p hp hd hr => ?_⟩
    exact low p hp (Nat.le_of_dvd hn hd) (fin p hr)
  · rw [if_neg c]
    refine ⟨hn, Nat.dvd_refl n, rp_self w n, fun p hp hd hr => ?_⟩
    have le := Nat.le_of_dvd hn hd
    rcases Nat.lt_or_ge p n with l | l
    · exact absurd (key p hp hd l hr).1 c
    · exact l
end Wd
/-! ### min(xs, default=d) of a list of ints: own rule -/
namespace MinD
open PySem PySem.W PyProof.Rows
def kwD (d : Value) : List (Str × Value) := [(Str.ofString "default", d)]
theorem nameL : (toString "min" ++ toString ".loop" : String) = "min.loop" := by decide
section
variable {prog : Program} {w : World} {A : Around} {R : Result → Shared → Prop} {I S : Addr} {fp wr : List Addr} {n : Nat} {P : Nat → Value → Prop} {St : Nat → Heap → Prop} {d : Value}
theorem loopD (W : Walks prog w A.in1 I fp wr n P St) (bt : Nat → Nat → Bool) (cm : CmpOf prog w A.in1 .Lt P bt) (nf : S ∉ fp) :
    ∀ (m j : Nat) (u : Shared) (best : Value) (c : Nat), n - (j + 1) = m → j + 1 ≤ n → St (j + 1) u.heap → P (argBest bt j) best →
    u.heap.get? S = some { cls := .type "list", dict := none, data := .seq #[best, best] c, slots := #[] } →
    (∀ v g tk, P (argBest bt (n - 1)) v → (∀ b o, b ∉ wr → b ≠ S → u.heap.get? b = some o → g.get? b = some o) → R (.ok (.ret v)) { u with heap := g, toks := tk }) →
    codeAny (model prog w) A (.builtin "min.loop" ⟨[.ref I, .none, .ref S], kwD d⟩) R u := by
  have nw : S ∉ wr := fun q => nf (W.sub _ q)
  intro m
  induction m with
  | zero =>
    intro j u best c em hj st pb gS out
    have ej : j + 1 = n := by omega
    refine codeAny_builtin PySem.F.entry_min_loop ?_
    rw [Around.under_plainId PySem.F.plain_min_loop _]
    show wpAny _ A.in1 (seqItems? (.ref S) >>= _) _ _ u
    refine wpAny_bind (wpAny_seqItems gS rfl ?_)
    show wpAny _ A.in1 (tryCatch (pyNext (.ref I)) _ >>= _) _ _ u
    refine wpAny_bind (wpAny_tryCatch (W.done u _ _ (ej ▸ st) fun g tk keep => ?_))
    have gS2 := keep S _ nw gS
    show wpAny _ A.in1 (updateSeq S (fun _ => #[]) >>= _) _ _ _
    refine wpAny_bind (wpAny_updateSeq gS2 rfl (wpAny_bind (wpAny_letGo (wpAny_pure ?_))))
    exact out best _ tk (by rw [← ej]; exact pb) fun b o hb hS e => (Heap.get?_update_other _ _ (Ne.symm hS)).trans (keep b o hb e)
  | succ m ih =>
    intro j u best c em hj st pb gS out
    have lt : j + 1 < n := by omega
    refine codeAny_builtin PySem.F.entry_min_loop ?_
    rw [Around.under_plainId PySem.F.plain_min_loop _]
    show wpAny _ A.in1 (seqItems? (.ref S) >>= _) _ _ u
    refine wpAny_bind (wpAny_seqItems gS rfl ?_)
    show wpAny _ A.in1 (tryCatch (pyNext (.ref I)) _ >>= _) _ _ u
    refine wpAny_bind (wpAny_tryCatch (W.item (j + 1) u _ _ lt st fun v g tk pv st2 keep => ?_))
    have gS2 := keep S _ nw gS
    show wpAny _ A.in1 (tryCatch (holding [v, v] (richCompare .Lt v best >>= _)) _ >>= _) _ _ _
    refine wpAny_bind (wpAny_tryCatch (wpAny_holding (wpAny_bind (cm (j + 1) (argBest bt j) v best _ _ _ pv pb ?_))))
    refine wpAny_bind (wpAny_holding (wpAny_truthy_bool (wpAny_bind (wpAny_letGo (wpAny_pure ?_)))))
    cases hb : bt (j + 1) (argBest bt j) with
    | true =>
      simp only [if_true]
      refine wpAny_bind (wpAny_updateSeq gS2 rfl (wpAny_bind (wpAny_letGo ?_)))
      rw [nameL]
      refine wpAny_pure ⟨plainId_quiet PySem.F.plain_min_loop _, ih (j + 1) _ v _ (by omega) lt (W.frame _ _ _ st2 fun b bf o e => ?_) (by simp only [argBest, hb, if_true]; exact pv) (Heap.get?_update_self _ gS2 rfl)
        fun v2 g2 tk2 p2 keep2 => ?_⟩
      · exact (Heap.get?_update_other _ _ (fun q : S = b => nf (by rw [q]; exact bf))).trans e
      · exact out v2 g2 tk2 p2 fun b o hw hS e => keep2 b o hw hS ((Heap.get?_update_other _ _ (Ne.symm hS)).trans (keep b o hw e))
    | false =>
      simp only [Bool.false_eq_true, if_false]
      refine wpAny_bind (wpAny_letGo ?_)
      rw [nameL]
      exact wpAny_pure ⟨plainId_quiet PySem.F.plain_min_loop _, ih (j + 1) _ best c (by omega) lt st2 (by simp only [argBest, hb, Bool.false_eq_true, if_false]; exact pb) gS2 fun v2 g2 tk2 p2 keep2 =>
        out v2 g2 tk2 p2 fun b o hw hS e => keep2 b o hw hS (keep b o hw e)⟩
theorem firstD (W : Walks prog w A.in1 I fp wr n P St) (bt : Nat → Nat → Bool) (cm : CmpOf prog w A.in1 .Lt P bt) (nf : S ∉ fp) {u : Shared} {c : Nat} (st : St 0 u.heap)
    (gS : u.heap.get? S = some { cls := .type "list", dict := none, data := .seq #[] c, slots := #[] })
    (out : ∀ v g tk, (0 < n → P (argBest bt (n - 1)) v) → (n = 0 → v = d) → (∀ b o, b ∉ wr → b ≠ S → u.heap.get? b = some o → g.get? b = some o) → R (.ok (.ret v)) { u with heap := g, toks := tk }) :
    codeAny (model prog w) A (.builtin "min.loop" ⟨[.ref I, .none, .ref S], kwD d⟩) R u := by
  have nw : S ∉ wr := fun q => nf (W.sub _ q)
  refine codeAny_builtin PySem.F.entry_min_loop ?_
  rw [Around.under_plainId PySem.F.plain_min_loop _]
  show wpAny _ A.in1 (seqItems? (.ref S) >>= _) _ _ u
  refine wpAny_bind (wpAny_seqItems gS rfl ?_)
  show wpAny _ A.in1 (tryCatch (pyNext (.ref I)) _ >>= _) _ _ u
  by_cases h0 : 0 < n
  · refine wpAny_bind (wpAny_tryCatch (W.item 0 u _ _ h0 st fun v g tk pv st2 keep => ?_))
    have gS2 := keep S _ nw gS
    show wpAny _ A.in1 (updateSeq S (fun _ => #[v, v]) >>= _) _ _ _
    refine wpAny_bind (wpAny_updateSeq gS2 rfl ?_)
    rw [nameL]
    refine wpAny_pure ⟨plainId_quiet PySem.F.plain_min_loop _, loopD W bt cm nf _ 0 _ v _ rfl h0 (W.frame _ _ _ st2 fun b bf o e => ?_) pv (Heap.get?_update_self _ gS2 rfl) fun v2 g2 tk2 p2 keep2 => ?_⟩
    · exact (Heap.get?_update_other _ _ (fun q : S = b => nf (by rw [q]; exact bf))).trans e
    · exact out v2 g2 tk2 (fun _ => p2) (fun z => by omega) fun b o hw hS e => keep2 b o hw hS ((Heap.get?_update_other _ _ (Ne.symm hS)).trans (keep b o hw e))
  · have e0 : n = 0 := by omega
    refine wpAny_bind (wpAny_tryCatch (W.done u _ _ (by rw [e0]; exact st) fun g tk keep => ?_))
    show wpAny _ A.in1 (rule _ >>= _) _ _ _
    refine wpAny_bind (wpAny_rule (wpAny_pure ?_))
    exact out d g tk (fun z => absurd z h0) (fun _ => rfl) fun b o hw _ e => keep b o hw e
end
section
variable {prog : Program} {w : World} {A : Around} {E : Value → Shared → Prop} {s : Shared} {d : Value}
theorem args_d (a v : Value) : argsOk "min" ⟨[a], kwD v⟩ := by
  unfold argsOk
  kernel_rfl
theorem callD {l : Addr} {xs : Array (Int × Tok)} {Q : Value → Shared → Prop} (hh : A.handled = none) (hl : s.heap.IsList l (intItems xs))
    (h : ∀ v g tk, (0 < xs.size → (intItems xs)[argBest (fun i j => decide (numAt xs i < numAt xs j)) (xs.size - 1)]? = some v) → (xs.size = 0 → v = d) → (∀ b o, s.heap.get? b = some o → g.get? b = some o) → Q v { s with heap := g, toks := tk }) :
    wpAny (model prog w) A (call (.builtin "min") [.ref l] (kwD d)) Q E s := by
  refine kmk_tree PySem.F.kind_min PySem.F.plain_min PySem.F.entry_min (args_d _ _) ?_
  show wpAny _ A.in1 (Builtin.Builtins.bindParams "min" ["key", "default"] 0 ⟨[], kwD d⟩ >>= _) _ _ s
  refine wpAny_bind (wpAny_of_eq (show Builtin.Builtins.bindParams "min" ["key", "default"] 0 ⟨[], kwD d⟩ = pure [none, some d] from rfl) ?_)
  refine wpAny_bind (wpAny_pure ?_)
  refine wpAny_bind (iter_intList hl fun u eu st hfp hlI => ?_)
  subst eu
  refine wpAny_bind (wpAny_newObj_type ?_)
  rw [nameL]
  refine wpAny_pure ⟨plainId_quiet PySem.F.plain_min_loop _, firstD (Walks.list (A := A.in1) hh _ l hlI (intItems xs)) _ (CmpOf.ints_lt (numAt xs) (fun _ _ => intItems_at)) (fun hm => Nat.lt_irrefl _ (hfp _ hm)) ?_ (Heap.get?_push_size _ rfl) fun v g tk p1 p2 keep => ?_⟩
  · exact (Walks.list (prog := prog) (w := w) (A := A.in1) hh _ l hlI (intItems xs)).frame _ _ _ st fun b _ o e => Heap.get?_push_of_some _ e
  · have hsz : (intItems xs).size = xs.size := by simp [intItems]
    refine h v g tk (fun z => by have := p1 (by rw [hsz]; exact z); rw [hsz] at this; exact this) (fun z => p2 (by rw [hsz]; exact z)) (old_kept (l := l) fun b o hb e => ?_)
    exact keep b o hb (Nat.ne_of_lt (Heap.lt_size e)) (Heap.get?_push_of_some _ e)
end
theorem rawD {prog : Program} {w : World} {A : Around} {E : Value → Shared → Prop} {s : Shared} {l : Addr} {its : List Value} {ns : List Int} {z : Int} {t : Tok} {Q : Value → Shared → Prop} (hh : A.handled = none) (hl : s.heap.IsList l its.toArray) (hi : IntsAre its ns)
    (h : ∀ (g : Heap) (tk : Nat) (m : Int) (t' : Tok), (∀ b o, s.heap.get? b = some o → g.get? b = some o) → (ns = [] → m = z) → (ns ≠ [] → m ∈ ns ∧ ∀ y ∈ ns, m ≤ y) → Q (.int m t') { s with heap := g, toks := tk }) :
    wpAny (model prog w) A (call (.builtin "min") [.ref l] (kwD (.int z t))) Q E s := by
  obtain ⟨xs, e⟩ := hi.allInts.items
  have hn : numsOf (intItems xs).toList = ns := by rw [← e]; exact hi.numsOf
  rw [PySem.nums_intItems] at hn
  subst hn
  rw [e] at hl
  refine callD hh hl fun v g tk p1 p2 keep => ?_
  by_cases c : 0 < xs.size
  · obtain ⟨u, rfl⟩ := intItems_at (p1 c)
    obtain ⟨a1, a2⟩ := argBest_lt (numAt xs) (xs.size - 1)
    refine h g tk _ u keep (fun z => ?_) fun _ => ⟨?_, fun y hy => ?_⟩
    · have q : xs.size = 0 := by simpa using congrArg List.length z
      omega
    · rw [PySem.numAt_eq]
      refine PySem.getD_mem ?_
      rw [List.length_map, Array.length_toList]
      exact Nat.lt_of_le_of_lt a1 (by omega)
    · obtain ⟨j, hj, rfl⟩ := PySem.mem_getD hy
      rw [List.length_map, Array.length_toList] at hj
      rw [← PySem.numAt_eq]
      exact a2 j (by omega)
  · rw [p2 (by omega)]
    refine h g tk z t keep (fun _ => rfl) fun q => absurd ?_ q
    have : xs = #[] := Array.eq_empty_of_size_eq_zero (by omega)
    rw [this]
    rfl
end MinD
namespace Bx
open PySem PySem.Spec PyProof.Rows L2
def rMinD (K : PySem.W.Frag) : List V → List V → Hp → VK → Prop := fun xs zs H Q => ∃ (a : Addr) (ns : List Int) (z : Int), xs = [.ref a] ∧ zs = [.int z] ∧ SqL K H a (ns.map V.int) ∧
  ∀ m, (ns = [] → m = z) → (ns ≠ [] → m ∈ ns ∧ ∀ y ∈ ns, m ≤ y) → Q (.int m) H
theorem call_minD {X : Cx} {K : PySem.W.Frag} (h : X.K = K) (hc : X.calm = true) : CallRK X (.builtin "min") ["default"] (rMinD K) := by
  subst h
  intro pins s σ H xs zs us ws Q I r r2 hw
  obtain ⟨a, ns, z, rfl, rfl, hs, q⟩ := hw
  obtain ⟨its, rv, hl, _⟩ := I.list hs
  rw [Vals.ref1 r]
  obtain ⟨u, rfl, ru⟩ := vals1 r2
  obtain ⟨t, rfl⟩ := ru
  exact MinD.rawD (I.ok.hd hc) hl.isList rv.ints fun g tk m t' hk h1 h2 => ⟨.int m, H, I.kept hk, ⟨_, rfl⟩, q m h1 h2⟩
end Bx
namespace Bx
open PySem PySem.Spec PyProof.Rows L2
/-! ### rules over the written part by its name -/
section
variable {X : Cx} {K : PySem.W.Frag}
theorem ix_tupK (h : X.K = K) : IxR X (rIxT K) := h ▸ ix_tup
theorem ix_listK (h : X.K = K) : IxR X (rIxL K) := h ▸ ix_list
theorem ix_seqK (h : X.K = K) : IxR X (rIx K) := h ▸ ix_seq
def rLen (K : PySem.W.Frag) : List V → Hp → VK → Prop := fun xs H Q => ∃ (p : Addr) (ys : List V), xs = [.ref p] ∧ (SqL K H p ys ∨ SqT K H p ys) ∧ Q (.int ys.length) H
theorem call_lenK (h : X.K = K) : CallR X (.builtin "len") (rLen K) := by
  subst h
  exact call_len_seq
def rTupOf (K : PySem.W.Frag) : List V → Hp → VK → Prop := fun xs H Q => ∃ (p : Addr) (ys : List V), xs = [.ref p] ∧ ((SqL K H p ys ∧ ∀ l, H l = none → Q (.ref l) (upd H l (.tup ys))) ∨ (SqT K H p ys ∧ Q (.ref p) H))
theorem call_tuple_ofK (h : X.K = K) : CallR X (.type "tuple") (rTupOf K) := by
  subst h
  exact call_tuple_of
def rLstOf (K : PySem.W.Frag) : List V → Hp → VK → Prop := fun xs H Q => ∃ (p : Addr) (ys : List V), xs = [.ref p] ∧ (SqL K H p ys ∨ SqT K H p ys) ∧ ∀ l, H l = none → Q (.ref l) (upd H l (.lst ys))
theorem call_list_ofK (h : X.K = K) : CallR X (.type "list") (rLstOf K) := by
  subst h
  exact call_list_of
end
end Bx
/-! ### heaps: what one list at d may lose, all else as it was -/
namespace Bx
open PySem PySem.Spec PyProof.Rows L2
def Kp (d : Addr) (H H' : Hp) : Prop := ∀ b o, b ≠ d → H b = some o → H' b = some o
theorem Kp.refl (d : Addr) (H : Hp) : Kp d H H := fun _ _ _ h => h
theorem Kp.trans {d : Addr} {H H1 H2 : Hp} (a : Kp d H H1) (b : Kp d H1 H2) : Kp d H H2 := fun c o n h => b c o n (a c o n h)
theorem Same.kp {d : Addr} {H H' : Hp} (s : Same H H') : Kp d H H' := fun b o _ h => s b o h
theorem Kp.own {d : Addr} {H : Hp} {o : HO} : Kp d H (upd H d o) := fun b _ n h => by rw [upd_ne n]; exact h
theorem same_new {H : Hp} {p : Addr} {o : HO} (h : H p = none) : Same H (upd H p o) := fun b x e => by
  rw [upd_ne (ne_of_none e h)]
  exact e
theorem Kp.new {d p : Addr} {H : Hp} {o : HO} (h : H p = none) : Kp d H (upd H p o) := Same.kp (same_new h)
theorem upd_self {H : Hp} {d : Addr} {o : HO} (h : H d = some o) : upd H d o = H := by
  funext b
  by_cases e : b = d
  · rw [e, upd_same, h]
  · rw [upd_ne e]
/-- a list of ints at d -/
def Ints (H : Hp) (d : Addr) (xs : List Int) : Prop := H d = some (.lst (xs.map V.int))
/-- the draws: some list of ints -/
def Drw (H : Hp) (d : Addr) : Prop := ∃ ds : List Int, H d = some (.lst (ds.map V.int))
theorem Drw.new {H : Hp} {d p : Addr} {o : HO} (h : Drw H d) (n : H p = none) : Drw (upd H p o) d := by
  obtain ⟨ds, e⟩ := h
  exact ⟨ds, same_new n _ _ e⟩
theorem Drw.own {H : Hp} {d : Addr} {ds : List Int} : Drw (upd H d (.lst (ds.map V.int))) d := ⟨ds, upd_same⟩
theorem Drw.same {H H' : Hp} {d : Addr} (h : Drw H d) (s : Same H H') : Drw H' d := by
  obtain ⟨ds, e⟩ := h
  exact ⟨ds, s _ _ e⟩
/-- a tuple of ints -/
def TupI (H : Hp) (a : Addr) (xs : List Int) : Prop := H a = some (.tup (xs.map V.int))
theorem Drw.ne_tup {H : Hp} {d a : Addr} {xs : List V} (h : Drw H d) (e : H a = some (.tup xs)) : a ≠ d := by
  obtain ⟨ds, e2⟩ := h
  exact ne_of e e2 (by intro z; cases z)
/-- a lasso: a pair of tuples of ints -/
def Las (H : Hp) (p : Addr) (h l : List Int) : Prop := ∃ a b, H p = some (.tup [.ref a, .ref b]) ∧ H a = some (.tup (h.map V.int)) ∧ H b = some (.tup (l.map V.int))
theorem Las.keep {H H' : Hp} {d p : Addr} {h l : List Int} (k : Kp d H H') (w : Drw H d) (x : Las H p h l) : Las H' p h l := by
  obtain ⟨a, b, e1, e2, e3⟩ := x
  exact ⟨a, b, k _ _ (w.ne_tup e1) e1, k _ _ (w.ne_tup e2) e2, k _ _ (w.ne_tup e3) e3⟩
theorem Las.same {H H' : Hp} {p : Addr} {h l : List Int} (k : Same H H') (x : Las H p h l) : Las H' p h l := by
  obtain ⟨a, b, e1, e2, e3⟩ := x
  exact ⟨a, b, k _ _ e1, k _ _ e2, k _ _ e3⟩
theorem lenI {xs : List Int} (h : xs.length ≤ 1000000) : (xs.map V.int).length < sizeLine := by
  rw [List.length_map]
  exact Nat.lt_of_le_of_lt h (by decide)
theorem ixN_at {n j : Nat} (h : j < n) : ixN n (j : Int) = some j := by
  unfold ixN
  rw [if_pos (by omega), if_pos (by omega)]
  rfl
theorem set_mapI {xs : List Int} {j : Nat} {v : Int} : (xs.map V.int).set j (.int v) = (xs.set j v).map V.int := by rw [List.map_set]
/-- a list or a tuple of ints -/
def SeqI (H : Hp) (a : Addr) (xs : List Int) : Prop := H a = some (.lst (xs.map V.int)) ∨ H a = some (.tup (xs.map V.int))
theorem SeqI.sq {K : PySem.W.Frag} {H : Hp} {a : Addr} {xs : List Int} (h : SeqI H a xs) : SqL K H a (xs.map V.int) ∨ SqT K H a (xs.map V.int) := by
  rcases h with h | h
  · exact .inl (.of h)
  · exact .inr (.of h)
theorem SeqI.same {H H' : Hp} {a : Addr} {xs : List Int} (k : Same H H') (h : SeqI H a xs) : SeqI H' a xs := by
  rcases h with h | h
  · exact .inl (k _ _ h)
  · exact .inr (k _ _ h)
/-- a pair of lists or tuples of ints -/
def Pr (H : Hp) (p : Addr) (h l : List Int) : Prop := ∃ a b, H p = some (.tup [.ref a, .ref b]) ∧ SeqI H a h ∧ SeqI H b l
theorem Las.pr {H : Hp} {p : Addr} {h l : List Int} (x : Las H p h l) : Pr H p h l := by
  obtain ⟨a, b, e1, e2, e3⟩ := x
  exact ⟨a, b, e1, .inr e2, .inr e3⟩
theorem Pr.same {H H' : Hp} {p : Addr} {h l : List Int} (k : Same H H') (x : Pr H p h l) : Pr H' p h l := by
  obtain ⟨a, b, e1, e2, e3⟩ := x
  exact ⟨a, b, k _ _ e1, e2.same k, e3.same k⟩
/-- an item -/
theorem ixq {K : PySem.W.Frag} {H : Hp} {a : Addr} {xs : List Int} {i : Int} {j : Nat} {v : V} {Q : VK} (h : SeqI H a xs) (ei : i = (j : Int)) (e : (xs.map V.int)[j]? = some v) (q : Q v H) : rIx K (.ref a) (.int i) H Q := by
  subst ei
  rcases h with h | h
  · exact .inl ⟨_, _, _, _, rfl, rfl, .of h, atI_nat e, q⟩
  · exact .inr (.inl ⟨_, _, _, _, rfl, rfl, .of h, atI_nat e, q⟩)
theorem ixq_last {K : PySem.W.Frag} {H : Hp} {a : Addr} {xs : List Int} {z : Int} {Q : VK} (h : SeqI H a xs) (e : xs.getLast? = some z) (q : Q (.int z) H) : rIx K (.ref a) (.int (-1)) H Q := by
  obtain ⟨ys, rfl⟩ := List.getLast?_eq_some_iff.mp e
  have g : atI ((ys ++ [z]).map V.int) (-1) = some (.int z) := by
    rw [List.map_append]
    exact atI_last _ _
  rcases h with h | h
  · exact .inl ⟨_, _, _, _, rfl, rfl, .of h, g, q⟩
  · exact .inr (.inl ⟨_, _, _, _, rfl, rfl, .of h, g, q⟩)
theorem at_map {xs : List Int} {j : Nat} (h : j < xs.length) : (xs.map V.int)[j]? = some (.int (xs.getD j 0)) := by
  rw [List.getElem?_map, List.getElem?_eq_getElem h, List.getD_eq_getElem?_getD, List.getElem?_eq_getElem h]
  rfl
/-! slices -/
section
variable {X : Cx} {K : PySem.W.Frag}
def rSlQ (K : PySem.W.Frag) : V → Option Int → Option Int → Hp → VK → Prop := fun x lo hi H Q => rSlL K x lo hi H Q ∨ rSlA K x lo hi H Q
theorem sl_seqK (h : X.K = K) : SlR X (rSlQ K) := by
  subst h
  exact sl_list.or sl_tupA
theorem sl_tupK (h : X.K = K) : SlR X (rSlA K) := by
  subst h
  exact sl_tupA
theorem sl_listK (h : X.K = K) : SlR X (rSlL K) := by
  subst h
  exact sl_list
theorem op_catK (h : X.K = K) : OpR X (binaryOp .Add) (rCatA K) := by
  subst h
  exact op_catA
theorem op_repTK (h : X.K = K) : OpR X (binaryOp .Mult) (rRepT K) := by
  subst h
  exact op_repT
theorem op_eqDK (h : X.K = K) (hu : X.A.units + 64 < cLine) : OpR X (compareOp .Eq) (rEqD K) := by
  subst h
  exact op_eqD hu
theorem op_neDK (h : X.K = K) (hu : X.A.units + 64 < cLine) : OpR X (compareOp .NotEq) (rNeD K) := by
  subst h
  exact op_neD hu
theorem call_minK (h : X.K = K) (hc : X.calm = true) : CallR X (.builtin "min") (rMin K) := by
  subst h
  exact cr_min hc
theorem call_isiK' (h : X.K = K) : CallR X (.builtin "isinstance") (rIsi K) := by
  subst h
  exact call_isi
end
theorem cut_map {xs : List Int} {lo hi : Option Int} : cutV (xs.map V.int) lo hi = ((xs.drop (HT.sIx xs.length 0 lo)).take (HT.sIx xs.length xs.length hi - HT.sIx xs.length 0 lo)).map V.int := by
  unfold cutV
  rw [List.length_map, List.map_take, List.map_drop]
/-- a slice of a tuple -/
theorem slt {K : PySem.W.Frag} {H : Hp} {a : Addr} {xs ys : List Int} {lo hi : Option Int} {Q : VK} (h : TupI H a xs) (e : (xs.drop (HT.sIx xs.length 0 lo)).take (HT.sIx xs.length xs.length hi - HT.sIx xs.length 0 lo) = ys)
    (q : ∀ (H' : Hp) (p : Addr), Same H H' → TupI H' p ys → Q (.ref p) H') : rSlA K (.ref a) lo hi H Q := by
  subst e
  refine ⟨a, _, rfl, .of h, fun w => ?_, fun _ p hp => q _ p (same_new hp) ?_⟩
  · refine q H a (Same.refl H) ?_
    rw [List.length_map] at w
    rw [w.1, w.2, List.drop_zero, Nat.sub_zero, List.take_length]
    exact h
  · unfold TupI
    rw [upd_same, cut_map]
/-- a slice of a list or tuple -/
theorem slq {K : PySem.W.Frag} {H : Hp} {a : Addr} {xs ys : List Int} {lo hi : Option Int} {Q : VK} (h : SeqI H a xs) (e : (xs.drop (HT.sIx xs.length 0 lo)).take (HT.sIx xs.length xs.length hi - HT.sIx xs.length 0 lo) = ys)
    (q : ∀ (H' : Hp) (p : Addr), Same H H' → SeqI H' p ys → Q (.ref p) H') : rSlQ K (.ref a) lo hi H Q := by
  rcases h with h | h
  · subst e
    refine .inl ⟨a, _, rfl, .of h, fun p hp => q _ p (same_new hp) (.inl ?_)⟩
    rw [upd_same, cut_map]
  · exact .inr (slt h e fun H' p s t => q H' p s (.inr t))
theorem cut_to (xs : List Int) (n : Nat) : (xs.drop (HT.sIx xs.length 0 none)).take (HT.sIx xs.length xs.length (some (n : Int)) - HT.sIx xs.length 0 none) = xs.take n := by
  rw [HT.sIx_none, HT.sIx_nat, List.drop_zero, Nat.sub_zero]
  rcases Nat.le_total n xs.length with c | c
  · rw [Nat.min_eq_left c]
  · rw [Nat.min_eq_right c, List.take_length, List.take_of_length_le c]
theorem cut_from (xs : List Int) {n : Nat} (hn : n ≤ xs.length) : (xs.drop (HT.sIx xs.length 0 (some (n : Int)))).take (HT.sIx xs.length xs.length none - HT.sIx xs.length 0 (some (n : Int))) = xs.drop n := by
  rw [HT.sIx_none, HT.sIx_nat, Nat.min_eq_left hn]
  exact List.take_of_length_le (by rw [List.length_drop]; exact Nat.le_refl _)
theorem slt_to {K : PySem.W.Frag} {H : Hp} {a : Addr} {xs : List Int} {k : Int} {n : Nat} {Q : VK} (h : TupI H a xs) (ek : k = (n : Int))
    (q : ∀ (H' : Hp) (p : Addr), Same H H' → TupI H' p (xs.take n) → Q (.ref p) H') : rSlA K (.ref a) none (some k) H Q := by
  subst ek
  exact slt h (cut_to xs n) q
theorem slt_from {K : PySem.W.Frag} {H : Hp} {a : Addr} {xs : List Int} {k : Int} {n : Nat} {Q : VK} (h : TupI H a xs) (ek : k = (n : Int)) (hn : n ≤ xs.length)
    (q : ∀ (H' : Hp) (p : Addr), Same H H' → TupI H' p (xs.drop n) → Q (.ref p) H') : rSlA K (.ref a) (some k) none H Q := by
  subst ek
  exact slt h (cut_from xs hn) q
theorem slq_to {K : PySem.W.Frag} {H : Hp} {a : Addr} {xs : List Int} {k : Int} {n : Nat} {Q : VK} (h : SeqI H a xs) (ek : k = (n : Int))
    (q : ∀ (H' : Hp) (p : Addr), Same H H' → SeqI H' p (xs.take n) → Q (.ref p) H') : rSlQ K (.ref a) none (some k) H Q := by
  subst ek
  exact slq h (cut_to xs n) q
theorem slq_mid {K : PySem.W.Frag} {H : Hp} {a : Addr} {xs : List Int} {k k2 : Int} {n m : Nat} {Q : VK} (h : SeqI H a xs) (ek : k = (n : Int)) (ek2 : k2 = (m : Int)) (hn : n ≤ xs.length) (hm : m ≤ xs.length)
    (q : ∀ (H' : Hp) (p : Addr), Same H H' → SeqI H' p ((xs.drop n).take (m - n)) → Q (.ref p) H') : rSlQ K (.ref a) (some k) (some k2) H Q := by
  subst ek
  subst ek2
  refine slq h ?_ q
  rw [HT.sIx_nat, HT.sIx_nat, Nat.min_eq_left hn, Nat.min_eq_left hm]
/-- tuple(x) -/
theorem tupq {K : PySem.W.Frag} {H : Hp} {a : Addr} {xs : List Int} {Q : VK} (h : SeqI H a xs) (q : ∀ (H' : Hp) (p : Addr), Same H H' → TupI H' p xs → Q (.ref p) H') : rTupOf K [.ref a] H Q := by
  rcases h with h | h
  · exact ⟨a, _, rfl, .inl ⟨.of h, fun p hp => q _ p (same_new hp) upd_same⟩⟩
  · exact ⟨a, _, rfl, .inr ⟨.of h, q H a (Same.refl H) h⟩⟩
/-- x + y of tuples -/
theorem catq {K : PySem.W.Frag} {H : Hp} {a b : Addr} {xs ys : List Int} {Q : VK} (h : TupI H a xs) (g : TupI H b ys) (hl : xs.length + ys.length ≤ 1000000) (q : ∀ (H' : Hp) (p : Addr), Same H H' → TupI H' p (xs ++ ys) → Q (.ref p) H') : rCatA K (.ref a) (.ref b) H Q := by
  refine ⟨a, b, _, _, rfl, rfl, .of h, .of g, ?_, fun z => ?_, fun _ z => ?_, fun _ _ p hp => ?_⟩
  · rw [List.length_map, List.length_map]
    exact Nat.le_trans hl (by decide)
  · have e : xs = [] := List.map_eq_nil_iff.mp z
    refine q H b (Same.refl H) ?_
    rw [e]
    exact g
  · have e : ys = [] := List.map_eq_nil_iff.mp z
    refine q H a (Same.refl H) ?_
    rw [e, List.append_nil]
    exact h
  · refine q _ p (same_new hp) ?_
    unfold TupI
    rw [upd_same, List.map_append]
/-- a slice of a list -/
theorem sll_from {K : PySem.W.Frag} {H : Hp} {a : Addr} {xs : List Int} {k : Int} {n : Nat} {Q : VK} (h : H a = some (.lst (xs.map V.int))) (ek : k = (n : Int)) (hn : n ≤ xs.length)
    (q : ∀ p, H p = none → Q (.ref p) (upd H p (.lst ((xs.drop n).map V.int)))) : rSlL K (.ref a) (some k) none H Q := by
  subst ek
  refine ⟨a, _, rfl, .of h, fun p hp => ?_⟩
  rw [cut_map, cut_from xs hn]
  exact q p hp
theorem sll_to {K : PySem.W.Frag} {H : Hp} {a : Addr} {xs : List Int} {k : Int} {n : Nat} {Q : VK} (h : H a = some (.lst (xs.map V.int))) (ek : k = (n : Int))
    (q : ∀ p, H p = none → Q (.ref p) (upd H p (.lst ((xs.take n).map V.int)))) : rSlL K (.ref a) none (some k) H Q := by
  subst ek
  refine ⟨a, _, rfl, .of h, fun p hp => ?_⟩
  rw [cut_map, cut_to xs n]
  exact q p hp
/-! == of data -/
theorem eqvAll_int : ∀ xs ys : List Int, PyData.eqvAll (xs.map PyData.int) (ys.map PyData.int) = decide (xs = ys)
  | [], [] => by simp [PyData.eqvAll]
  | [], y :: ys => by simp [PyData.eqvAll]
  | x :: xs, [] => by simp [PyData.eqvAll]
  | x :: xs, y :: ys => by
    rw [List.map_cons, List.map_cons, PyData.eqvAll, eqvAll_int xs ys, PyData.eqv]
    by_cases c : x = y
    · by_cases d : xs = ys
      · simp [c, d]
      · simp [c, d]
    · simp [c]
theorem eqv_tup (xs ys : List Int) : PyData.eqv (.tuple (xs.map PyData.int)) (.tuple (ys.map PyData.int)) = decide (xs = ys) := by
  rw [PyData.eqv]
  exact eqvAll_int xs ys
theorem eqv_lst (xs ys : List Int) : PyData.eqv (.list (xs.map PyData.int)) (.list (ys.map PyData.int)) = decide (xs = ys) := by
  rw [PyData.eqv]
  exact eqvAll_int xs ys
theorem layAll : ∀ xs : List Int, PyData.canLayAll0 (xs.map PyData.int) = true
  | [] => rfl
  | x :: xs => by
    rw [List.map_cons, PyData.canLayAll0, layAll xs]
    rfl
theorem depAll : ∀ xs : List Int, PyData.depthAll (xs.map PyData.int) = 0
  | [] => by simp [PyData.depthAll]
  | x :: xs => by
    rw [List.map_cons, PyData.depthAll, depAll xs]
    simp [PyData.depth]
theorem shaped_tup (xs : List Int) : SeqAt.shaped (.tuple (xs.map PyData.int)) = true := by
  unfold SeqAt.shaped
  rw [PyData.canLay0, layAll, PyData.depth, depAll]
  rfl
theorem shaped_lst (xs : List Int) : SeqAt.shaped (.list (xs.map PyData.int)) = true := by
  unfold SeqAt.shaped
  rw [PyData.canLay0, layAll, PyData.depth, depAll]
  rfl
theorem dpAll_int {K : PySem.W.Frag} {H : Hp} : ∀ xs : List Int, DpAll K H (xs.map V.int) (xs.map PyData.int)
  | [] => .nil
  | x :: xs => .cons (.int x) (dpAll_int xs)
theorem dp_lst {K : PySem.W.Frag} {H : Hp} {a : Addr} {xs : List Int} (h : H a = some (.lst (xs.map V.int))) : Dp K H (.ref a) (.list (xs.map PyData.int)) := .lst (.of h) (dpAll_int xs)
theorem dp_tup {K : PySem.W.Frag} {H : Hp} {a : Addr} {xs : List Int} (h : TupI H a xs) : Dp K H (.ref a) (.tuple (xs.map PyData.int)) := .tup (.of h) (dpAll_int xs)
theorem ite_ne {x y : Int} {A B : Prop} (h1 : x ≠ y → A) (h2 : x = y → B) : if (!decide (V.int x = V.int y)) = true then A else B := by
  by_cases c : x = y
  · rw [c, decide_eq_true rfl]
    exact iteF (h2 c)
  · rw [decide_eq_false (fun z => c (V.int.inj z))]
    exact iteT (h1 c)
theorem ite_eq {x y : Int} {A B : Prop} (h1 : x = y → A) (h2 : x ≠ y → B) : if decide (V.int x = V.int y) = true then A else B := by
  by_cases c : x = y
  · rw [c, decide_eq_true rfl]
    exact iteT (h1 c)
  · rw [decide_eq_false (fun z => c (V.int.inj z))]
    exact iteF (h2 c)
theorem ite_lt {x y : Int} {A B : Prop} (h1 : x < y → A) (h2 : y ≤ x → B) : if decide (x < y) = true then A else B := by
  by_cases c : x < y
  · rw [decide_eq_true c]
    exact iteT (h1 c)
  · rw [decide_eq_false c]
    exact iteF (h2 (by omega))
/-! ### the letters of a word -/
def wat (h l : List Int) (t : Nat) : Int := if t < h.length then h.getD t 0 else l.getD ((t - h.length) % l.length) 0
theorem wat_head {h l : List Int} {t : Nat} (c : t < h.length) : (h.map V.int)[t]? = some (.int (wat h l t)) := by
  unfold wat
  rw [if_pos c, List.getElem?_map, List.getElem?_eq_getElem c, List.getD_eq_getElem?_getD, List.getElem?_eq_getElem c]
  rfl
theorem wat_loop {h l : List Int} {t : Nat} (c : ¬ t < h.length) (n : l ≠ []) : (l.map V.int)[(t - h.length) % l.length]? = some (.int (wat h l t)) := by
  have hl : 0 < l.length := List.length_pos_iff.mpr n
  have c2 : (t - h.length) % l.length < l.length := Nat.mod_lt _ hl
  unfold wat
  rw [if_neg c, List.getElem?_map, List.getElem?_eq_getElem c2, List.getD_eq_getElem?_getD, List.getElem?_eq_getElem c2]
  rfl
theorem ix_mod {t n m : Nat} (h : n ≤ t) : ((t : Int) - (n : Int)) % (m : Int) = (((t - n) % m : Nat) : Int) := by
  have e : ((t : Int) - (n : Int)) = ((t - n : Nat) : Int) := by omega
  rw [e]
  rfl
/-! ### promises of the helpers -/
def spTake : Sp := fun vs H Q _ => ∃ (d : Addr) (n : Int), vs = [.ref d, .int n] ∧ Drw H d ∧ 0 < n ∧
  ∀ (r : Int) (ds : List Int), 0 ≤ r → r < n → Q (.int r) (upd H d (.lst (ds.map V.int)))
def spDraws (K : PySem.W.Frag) : Sp := fun vs H Q _ => ∃ (a : Addr) (ns : List Int) (c : Nat), vs = [.ref a, .int c] ∧ SqL K H a (ns.map V.int) ∧ c ≤ 1000 ∧
  ∀ (H' : Hp) (d : Addr), Same H H' → H d = none → Drw H' d → Q (.ref d) H'
def spAt : Sp := fun vs H Q _ => ∃ (p : Addr) (h l : List Int) (t : Nat), vs = [.ref p, .int t] ∧ Pr H p h l ∧ l ≠ [] ∧ Q (.int (wat h l t)) H
def spLasso : Sp := fun vs H Q _ => ∃ (d : Addr) (n : Int) (m : Nat), vs = [.ref d, .int n, .int m] ∧ Drw H d ∧ 0 < n ∧ 0 < m ∧ m ≤ 1000 ∧
  ∀ (H' : Hp) (p : Addr) (h l : List Int), Kp d H H' → Drw H' d → Las H' p h l → h.length ≤ m → l ≠ [] → l.length ≤ m → (∀ x ∈ h, 0 ≤ x ∧ x < n) → (∀ x ∈ l, 0 ≤ x ∧ x < n) → Q (.ref p) H'
/-- v says where f and g first differ below n -/
def IsDiff (f g : Nat → Int) (n : Nat) (v : V) : Prop := (v = .non ∧ ∀ t < n, f t = g t) ∨ ∃ t, t < n ∧ v = .int (t : Nat) ∧ f t ≠ g t ∧ ∀ s < t, f s = g s
theorem IsDiff.uniq {f g : Nat → Int} {n : Nat} {v u : V} (a : IsDiff f g n v) (b : IsDiff f g n u) : v = u := by
  rcases a with ⟨rfl, a⟩ | ⟨t, ht, rfl, a1, a2⟩
  · rcases b with ⟨rfl, b⟩ | ⟨s, hs, rfl, b1, b2⟩
    · rfl
    · exact absurd (a s hs) b1
  · rcases b with ⟨rfl, b⟩ | ⟨s, hs, rfl, b1, b2⟩
    · exact absurd (b t ht) a1
    · rcases Nat.lt_trichotomy t s with c | c | c
      · exact absurd (b2 t c) a1
      · rw [c]
      · exact absurd (a2 s c) b1
theorem IsDiff.swap {f g : Nat → Int} {n : Nat} {v : V} (a : IsDiff f g n v) : IsDiff g f n v := by
  rcases a with ⟨rfl, a⟩ | ⟨t, ht, rfl, a1, a2⟩
  · exact .inl ⟨rfl, fun t h => (a t h).symm⟩
  · exact .inr ⟨t, ht, rfl, a1.symm, fun s h => (a2 s h).symm⟩
def dfn (h1 l1 h2 l2 : List Int) : Nat := max h1.length h2.length + l1.length + l2.length
def spFd : Sp := fun vs H Q _ => ∃ (p q : Addr) (h1 l1 h2 l2 : List Int), vs = [.ref p, .ref q] ∧ Las H p h1 l1 ∧ Las H q h2 l2 ∧ l1 ≠ [] ∧ l2 ≠ [] ∧ dfn h1 l1 h2 l2 ≤ 1000000 ∧
  ∀ v, IsDiff (wat h1 l1) (wat h2 l2) (dfn h1 l1 h2 l2) v → Q v H
theorem max_if (a b : Nat) : (if ((b : Nat) : Int) > (a : Int) then (b : Int) else (a : Int)) = ((max a b : Nat) : Int) := by
  by_cases h : ((b : Nat) : Int) > (a : Int)
  · rw [if_pos h]
    omega
  · rw [if_neg h]
    omega
/-- the letters of a list, by places -/
def lw (l : List Int) : Nat → Int := fun i => l.getD i 0
def spPeriod : Sp := fun vs H Q _ => ∃ (a : Addr) (l : List Int), vs = [.ref a] ∧ SeqI H a l ∧ l ≠ [] ∧ l.length ≤ 1000000 ∧
  ∀ (H' : Hp) (r : Nat), Same H H' → Wd.Least (lw l) l.length r → Q (.int r) H'
/-- the normal form (h', l') of (h, l) -/
structure Short (h l h' l' : List Int) : Prop where
  ne : l' ≠ []
  same : ∀ t, wat h' l' t = wat h l t
  hl : h'.length ≤ h.length
  ll : l'.length ≤ l.length
  last : h' ≠ [] → h'.getLast? ≠ l'.getLast?
  prim : ∀ p, 0 < p → p < l'.length → p ∣ l'.length → ∃ i, i + p < l'.length ∧ lw l' i ≠ lw l' (i + p)
  memH : ∀ x ∈ h', x ∈ h
  memL : ∀ x ∈ l', x ∈ l
/-- the letter of the repeated word at any whole number of turns from where it begins -/
def bk (l : List Int) (r : Nat) (z : Int) : Int := lw l ((z % (r : Int)).toNat)
def rot (l : List Int) (r c : Nat) : List Int := (l.drop c).take (r - c) ++ l.take c
theorem rot_len {l : List Int} {r c : Nat} (hc : c < r) (hr : r ≤ l.length) : (rot l r c).length = r := by
  unfold rot
  rw [List.length_append, List.length_take, List.length_drop, List.length_take]
  omega
theorem lw_get {l : List Int} {i : Nat} (h : i < l.length) : l[i]? = some (lw l i) := by
  unfold lw
  rw [List.getD_eq_getElem?_getD, List.getElem?_eq_getElem h]
  rfl
theorem lw_of {l : List Int} {i : Nat} {x : Int} (h : l[i]? = some x) : lw l i = x := by
  unfold lw
  rw [List.getD_eq_getElem?_getD, h]
  rfl
theorem rot_at {l : List Int} {r c j : Nat} (hc : c < r) (hr : r ≤ l.length) (hj : j < r) : lw (rot l r c) j = lw l ((j + c) % r) := by
  apply lw_of
  unfold rot
  have e1 : ((l.drop c).take (r - c)).length = r - c := by
    rw [List.length_take, List.length_drop]
    omega
  rcases Nat.lt_or_ge j (r - c) with h | h
  · rw [List.getElem?_append_left (by rw [e1]; exact h), List.getElem?_take, if_pos h, List.getElem?_drop, Nat.mod_eq_of_lt (by omega), Nat.add_comm c j]
    exact lw_get (by omega)
  · rw [List.getElem?_append_right (by rw [e1]; exact h), e1, List.getElem?_take, if_pos (by omega)]
    have e2 : (j + c) % r = j - (r - c) := by
      rw [Nat.mod_eq_sub_mod (by omega), Nat.mod_eq_of_lt (by omega)]
      omega
    rw [e2]
    exact lw_get (by omega)
theorem bk_shift {l : List Int} {r : Nat} {a b z : Int} (h : a = b + r * z) : bk l r a = bk l r b := by
  unfold bk
  rw [h, Int.add_mul_emod_self_left]
theorem bk_nat {l : List Int} {r t : Nat} : bk l r (t : Int) = lw l (t % r) := rfl
theorem least_le {w : Nat → Int} {n r : Nat} (hn : 0 < n) (L : Wd.Least w n r) : r ≤ n := Nat.le_of_dvd hn L.dvd
/-- the letters of l repeated, by the least repetition -/
theorem cyc_least {l : List Int} {r : Nat} (hn : 0 < l.length) (L : Wd.Least (lw l) l.length r) (i : Nat) : lw l (i % l.length) = bk l r (i : Int) := by
  have h1 : Wd.cyc (lw l) l.length i = Wd.cyc (lw l) l.length (i % r) := L.rp.mod
  have h2 : Wd.cyc (lw l) l.length (i % r) = lw l (i % r) := Wd.cyc_lt (Nat.lt_of_lt_of_le (Nat.mod_lt _ L.pos) (least_le hn L))
  rw [bk_nat, ← h2, ← h1]
  rfl
theorem cut_lt {r : Nat} (hr : 0 < r) (z : Int) : (z % (r : Int)).toNat < r := by
  have h1 := Int.emod_nonneg z (show (r : Int) ≠ 0 by omega)
  have h2 := Int.emod_lt_of_pos z (show (0 : Int) < (r : Int) by omega)
  omega
theorem cut_int {r : Nat} (hr : 0 < r) (z : Int) : (((z % (r : Int)).toNat : Nat) : Int) = z - r * (z / r) := by
  have h1 := Int.emod_nonneg z (show (r : Int) ≠ 0 by omega)
  rw [Int.toNat_of_nonneg h1, Int.emod_def]
theorem rot_bk {l : List Int} {r : Nat} (hr0 : 0 < r) (hr : r ≤ l.length) (z : Int) (j : Nat) : lw (rot l r (z % (r : Int)).toNat) (j % r) = bk l r ((j : Int) + z) := by
  rw [rot_at (cut_lt hr0 z) hr (Nat.mod_lt _ hr0), Nat.mod_add_mod]
  have h : bk l r (((j + (z % (r : Int)).toNat : Nat)) : Int) = bk l r ((j : Int) + z) := bk_shift (z := -(z / r)) (by
    rw [Int.natCast_add, cut_int hr0, Int.mul_neg]
    omega)
  rw [← h]
  rfl
theorem short_of {h l : List Int} {r k : Nat} (hne : l ≠ []) (L : Wd.Least (lw l) l.length r) (hk : k ≤ h.length)
    (hB : ∀ t, k ≤ t → t < h.length → lw h t = bk l r ((t : Int) - (h.length : Int))) (hX : k = 0 ∨ lw h (k - 1) ≠ bk l r ((k : Int) - 1 - (h.length : Int))) :
    Short h l (h.take k) (rot l r (((k : Int) - (h.length : Int)) % (r : Int)).toNat) := by
  have hn : 0 < l.length := List.length_pos_iff.mpr hne
  have hr0 := L.pos
  have hr := least_le hn L
  have hlen := rot_len (cut_lt hr0 ((k : Int) - (h.length : Int))) hr
  have htk : (h.take k).length = k := by
    rw [List.length_take]
    omega
  refine ⟨fun z => ?_, fun t => ?_, by rw [htk]; exact hk, by rw [hlen]; exact hr, fun hh => ?_, fun p hp hpl hpd => ?_, fun x hx => List.mem_of_mem_take hx, fun x hx => ?_⟩
  · rw [z] at hlen
    have : (0 : Nat) = r := hlen
    omega
  · unfold wat
    rw [htk, hlen]
    by_cases c : t < k
    · rw [if_pos c, if_pos (by omega), List.getD_eq_getElem?_getD, List.getD_eq_getElem?_getD, List.getElem?_take, if_pos c]
    · rw [if_neg c]
      have e1 := rot_bk (l := l) hr0 hr ((k : Int) - (h.length : Int)) (t - k)
      have e2 : ((t - k : Nat) : Int) + ((k : Int) - (h.length : Int)) = (t : Int) - (h.length : Int) := by omega
      rw [e2] at e1
      show lw _ _ = _
      rw [e1]
      by_cases d : t < h.length
      · rw [if_pos d]
        exact (hB t (by omega) d).symm
      · rw [if_neg d]
        have e3 : (t : Int) - (h.length : Int) = ((t - h.length : Nat) : Int) := by omega
        rw [e3]
        exact (cyc_least hn L _).symm
  · have hk0 : k ≠ 0 := fun z => hh (by rw [z]; rfl)
    rcases hX with z | z
    · exact absurd z hk0
    · rw [List.getLast?_eq_getElem?, List.getLast?_eq_getElem?, htk, hlen]
      rw [List.getElem?_take, if_pos (by omega), lw_get (show k - 1 < h.length by omega), lw_get (show r - 1 < (rot l r _).length by rw [hlen]; omega)]
      intro q
      refine z ?_
      rw [Option.some.inj q]
      have e1 := rot_bk (l := l) hr0 hr ((k : Int) - (h.length : Int)) (r - 1)
      rw [Nat.mod_eq_of_lt (show r - 1 < r by omega)] at e1
      rw [e1]
      exact bk_shift (z := 1) (by omega)
  · rw [hlen] at hpl hpd ⊢
    apply Classical.byContradiction
    intro hno
    have hall : ∀ i, i + p < r → lw (rot l r (((k : Int) - (h.length : Int)) % (r : Int)).toNat) i = lw (rot l r (((k : Int) - (h.length : Int)) % (r : Int)).toNat) (i + p) := fun i hi =>
      Classical.byContradiction fun q => hno ⟨i, hi, q⟩
    have hrp := Wd.rp_of hp hpd hr0 hall
    have key : ∀ i, Wd.cyc (lw l) l.length i = Wd.cyc (lw (rot l r (((k : Int) - (h.length : Int)) % (r : Int)).toNat)) r (i + (r - (((k : Int) - (h.length : Int)) % (r : Int)).toNat)) := by
      intro i
      have hc := cut_lt hr0 ((k : Int) - (h.length : Int))
      have a1 : Wd.cyc (lw l) l.length i = bk l r (i : Int) := cyc_least hn L i
      have a2 := rot_at hc hr (Nat.mod_lt (i + (r - (((k : Int) - (h.length : Int)) % (r : Int)).toNat)) hr0)
      rw [a1]
      show _ = lw _ (_ % r)
      rw [a2, Nat.mod_add_mod, show i + (r - (((k : Int) - (h.length : Int)) % (r : Int)).toNat) + (((k : Int) - (h.length : Int)) % (r : Int)).toNat = i + r by omega, Nat.add_mod_right]
      rfl
    have hR : Wd.Rp (lw l) l.length p := fun i => by
      rw [key, key, Nat.add_right_comm]
      exact hrp _
    have := L.min p hp (Nat.dvd_trans hpd L.dvd) hR
    omega
  · unfold rot at hx
    rcases List.mem_append.mp hx with z | z
    · exact List.mem_of_mem_drop (List.mem_of_mem_take z)
    · exact List.mem_of_mem_take z
theorem rp_mod {w : Nat → Int} {n p q : Nat} (hp : Wd.Rp w n p) (hq : Wd.Rp w n q) : Wd.Rp w n (q % p) := fun i => by
  have a := hp.mul (q / p) (i + q % p)
  rw [Nat.mul_comm, Nat.add_assoc, Nat.mod_add_div] at a
  rw [← a]
  exact hq i
theorem rp_gcd {w : Nat → Int} {n : Nat} (p q : Nat) : Wd.Rp w n p → Wd.Rp w n q → Wd.Rp w n (Nat.gcd p q) := by
  induction p, q using Nat.gcd.induction with
  | H0 q => intro _ hq; rw [Nat.gcd_zero_left]; exact hq
  | H1 p q hp ih => intro h1 h2; rw [Nat.gcd_rec]; exact ih (rp_mod h1 h2) h1
/-- the normal form -/
structure Nrm (h l : List Int) : Prop where
  ne : l ≠ []
  last : h ≠ [] → h.getLast? ≠ l.getLast?
  prim : ∀ p, 0 < p → p < l.length → p ∣ l.length → ∃ i, i + p < l.length ∧ lw l i ≠ lw l (i + p)
theorem Short.nrm {h l h' l' : List Int} (s : Short h l h' l') : Nrm h' l' := ⟨s.ne, s.last, s.prim⟩
theorem Nrm.pos {h l : List Int} (N : Nrm h l) : 0 < l.length := List.length_pos_iff.mpr N.ne
theorem wat_cyc {h l : List Int} {t : Nat} (c : h.length ≤ t) : wat h l t = Wd.cyc (lw l) l.length (t - h.length) := by
  unfold wat
  rw [if_neg (by omega)]
  rfl
/-- every period that the word has from some turn on is a multiple of the loop's length -/
theorem Nrm.dvd {h l : List Int} (N : Nrm h l) {p M : Nat} (hP : ∀ t, M ≤ t → wat h l (t + p) = wat h l t) : l.length ∣ p := by
  have hr := N.pos
  have hRp : Wd.Rp (lw l) l.length p := fun i => by
    have self := Wd.rp_self (lw l) l.length
    have e1 := self.mul M i
    have e2 := self.mul M (i + p)
    have hM : M ≤ M * l.length := Nat.le_mul_of_pos_right M hr
    have q := hP (h.length + (i + M * l.length)) (by omega)
    rw [wat_cyc (by omega), wat_cyc (by omega)] at q
    rw [show h.length + (i + M * l.length) + p - h.length = i + p + M * l.length by omega, show h.length + (i + M * l.length) - h.length = i + M * l.length by omega, e1, e2] at q
    exact q
  have hg := rp_gcd p l.length hRp (Wd.rp_self (lw l) l.length)
  have gd : Nat.gcd p l.length ∣ l.length := Nat.gcd_dvd_right p l.length
  have gp : 0 < Nat.gcd p l.length := Nat.gcd_pos_of_pos_right p hr
  have gl := Nat.le_of_dvd hr gd
  rcases Nat.lt_or_ge (Nat.gcd p l.length) l.length with c | c
  · obtain ⟨i, hi, hne⟩ := N.prim _ gp c gd
    refine absurd ?_ hne
    have := hg i
    rw [Wd.cyc_lt hi, Wd.cyc_lt (by omega)] at this
    exact this.symm
  · have e : Nat.gcd p l.length = l.length := by omega
    rw [← e]
    exact Nat.gcd_dvd_left p l.length
theorem wat_per {h l : List Int} {t : Nat} (c : h.length ≤ t) : wat h l (t + l.length) = wat h l t := by
  rw [wat_cyc c, wat_cyc (by omega), show t + l.length - h.length = (t - h.length) + l.length by omega]
  exact Wd.rp_self (lw l) l.length _
theorem last_at {l : List Int} (n : l ≠ []) : l.getLast? = some (lw l (l.length - 1)) := by
  have := List.length_pos_iff.mpr n
  rw [List.getLast?_eq_getElem?]
  exact lw_get (by omega)
theorem Nrm.head_le {h l g m : List Int} (N : Nrm h l) (hs : ∀ t, wat h l t = wat g m t) (e : l.length = m.length) : h.length ≤ g.length := by
  rcases Nat.lt_or_ge g.length h.length with c | c
  · exfalso
    have hne : h ≠ [] := List.length_pos_iff.mp (by omega)
    refine N.last hne ?_
    rw [last_at hne, last_at N.ne]
    congr 1
    have hp := N.pos
    have a1 : wat h l (h.length - 1) = lw h (h.length - 1) := by
      unfold wat
      rw [if_pos (by omega)]
      rfl
    have a2 : wat h l (h.length - 1 + l.length) = lw l (l.length - 1) := by
      rw [wat_cyc (by omega), show h.length - 1 + l.length - h.length = l.length - 1 by omega, Wd.cyc_lt (by omega)]
    rw [← a1, ← a2, hs, hs, e]
    exact (wat_per (by omega)).symm
  · exact c
theorem Nrm.uniq {h l g m : List Int} (N : Nrm h l) (M : Nrm g m) (hs : ∀ t, wat h l t = wat g m t) : h = g ∧ l = m := by
  have d1 : l.length ∣ m.length := N.dvd (M := g.length) fun t ht => by
    rw [hs, hs]
    exact wat_per ht
  have d2 : m.length ∣ l.length := M.dvd (M := h.length) fun t ht => by
    rw [← hs, ← hs]
    exact wat_per ht
  have e : l.length = m.length := Nat.dvd_antisymm d1 d2
  have e2 : h.length = g.length := Nat.le_antisymm (N.head_le hs e) (M.head_le (fun t => (hs t).symm) e.symm)
  refine ⟨List.ext_getElem e2 fun i h1 h2 => ?_, List.ext_getElem e fun i h1 h2 => ?_⟩
  · have := hs i
    unfold wat at this
    rw [if_pos h1, if_pos h2, List.getD_eq_getElem?_getD, List.getD_eq_getElem?_getD, List.getElem?_eq_getElem h1, List.getElem?_eq_getElem h2] at this
    exact this
  · have := hs (h.length + i)
    rw [wat_cyc (by omega), wat_cyc (by omega), show h.length + i - h.length = i by omega, show h.length + i - g.length = i by omega, Wd.cyc_lt h1, Wd.cyc_lt h2] at this
    have a1 := lw_get h1
    have a2 := lw_get h2
    rw [List.getElem?_eq_getElem h1] at a1
    rw [List.getElem?_eq_getElem h2] at a2
    rw [Option.some.inj a1, Option.some.inj a2, this]
theorem at_last {l : List Int} (n : l ≠ []) : atI (l.map V.int) (-1) = some (.int (lw l (l.length - 1))) := by
  have hp := List.length_pos_iff.mpr n
  have e : l.map V.int = (l.dropLast.map V.int) ++ [.int (l.getLast n)] := by
    rw [← List.map_singleton, ← List.map_append, List.dropLast_concat_getLast]
  rw [e, atI_last]
  have q := last_at n
  rw [List.getLast?_eq_getLast n] at q
  rw [Option.some.inj q]
/-! repetition of a text -/
theorem flat_at {w : List Int} : ∀ (k i : Nat), i < k * w.length → (List.replicate k w).flatten[i]? = w[i % w.length]?
  | 0, i, h => by
    rw [Nat.zero_mul] at h
    exact absurd h (Nat.not_lt_zero i)
  | k + 1, i, h => by
    rw [List.replicate_succ, List.flatten_cons]
    rcases Nat.lt_or_ge i w.length with c | c
    · rw [List.getElem?_append_left c, Nat.mod_eq_of_lt c]
    · rw [List.getElem?_append_right c, flat_at k (i - w.length) (by rw [Nat.succ_mul] at h; omega), ← Nat.mod_eq_sub_mod c]
theorem flat_per {l : List Int} {p k : Nat} (hp : 0 < p) (hpl : p ≤ l.length) (e : l = (List.replicate k (l.take p)).flatten) (hk : k * p = l.length) : ∀ i, i + p < l.length → lw l i = lw l (i + p) := by
  intro i hi
  have el : (l.take p).length = p := by
    rw [List.length_take]
    omega
  have at_ : ∀ j, j < l.length → l[j]? = (l.take p)[j % p]? := fun j hj => by
    have h0 := flat_at (w := l.take p) k j (by rw [el, hk]; exact hj)
    rw [← e, el] at h0
    exact h0
  have h1 := at_ i (by omega)
  have h2 := at_ (i + p) hi
  rw [Nat.add_mod_right, ← h1, lw_get hi, lw_get (show i < l.length by omega)] at h2
  exact (Option.some.inj h2).symm
def spShort : Sp := fun vs H Q _ => ∃ (a b : Addr) (h l : List Int), vs = [.ref a, .ref b] ∧ SeqI H a h ∧ SeqI H b l ∧ l ≠ [] ∧ h.length ≤ 100000 ∧ l.length ≤ 100000 ∧
  ∀ (H' : Hp) (p : Addr) (h' l' : List Int), Same H H' → Las H' p h' l' → Short h l h' l' → Q (.ref p) H'
/-- what suffix hands back -/
def Suf (h l : List Int) (t : Nat) (h' l' : List Int) : Prop := Nrm h' l' ∧ (∀ i, wat h' l' i = wat h l (t + i)) ∧ h'.length ≤ h.length ∧ l'.length ≤ l.length ∧ (∀ x ∈ h', x ∈ h ∨ x ∈ l) ∧ ∀ x ∈ l', x ∈ l
def spSuffix : Sp := fun vs H Q _ => ∃ (p : Addr) (h l : List Int) (t : Nat), vs = [.ref p, .int t] ∧ Las H p h l ∧ l ≠ [] ∧ h.length ≤ 50000 ∧ l.length ≤ 50000 ∧
  ∀ (H' : Hp) (p' : Addr) (h' l' : List Int), Same H H' → Las H' p' h' l' → Suf h l t h' l' → Q (.ref p') H'
def spMake : Sp := fun vs H Q _ => ∃ (a b : Addr) (h l : List Int), vs = [.ref a, .ref b] ∧ H a = some (.lst (h.map V.int)) ∧ H b = some (.lst (l.map V.int)) ∧ l ≠ [] ∧ h.length ≤ 100000 ∧ l.length ≤ 100000 ∧ (∀ x ∈ h, 0 ≤ x) ∧ (∀ x ∈ l, 0 ≤ x) ∧
  ∀ (H' : Hp) (p : Addr) (h' l' : List Int), Same H H' → Las H' p h' l' → Short h l h' l' → Q (.ref p) H'
theorem suf_drop {h l : List Int} {t : Nat} (c : t < h.length) (i : Nat) : wat (h.drop t) l i = wat h l (t + i) := by
  unfold wat
  rw [List.length_drop]
  by_cases d : t + i < h.length
  · rw [if_pos d, if_pos (by omega), List.getD_eq_getElem?_getD, List.getD_eq_getElem?_getD, List.getElem?_drop]
  · rw [if_neg d, if_neg (by omega), show t + i - h.length = i - (h.length - t) by omega]
theorem suf_turn {h l : List Int} {t : Nat} (hn : l ≠ []) (c : h.length ≤ t) (i : Nat) : wat [] (l.drop ((t - h.length) % l.length) ++ l.take ((t - h.length) % l.length)) i = wat h l (t + i) := by
  have hp : 0 < l.length := List.length_pos_iff.mpr hn
  have hc := Nat.mod_lt (t - h.length) hp
  have e : l.drop ((t - h.length) % l.length) ++ l.take ((t - h.length) % l.length) = rot l l.length ((t - h.length) % l.length) := by
    have e3 : (l.drop ((t - h.length) % l.length)).take (l.length - (t - h.length) % l.length) = l.drop ((t - h.length) % l.length) := List.take_of_length_le (by rw [List.length_drop]; exact Nat.le_refl _)
    unfold rot
    rw [e3]
  rw [e, wat_cyc (Nat.zero_le _), wat_cyc (show h.length ≤ t + i by omega), rot_len hc (Nat.le_refl _)]
  show lw _ (_ % _) = lw _ (_ % _)
  rw [rot_at hc (Nat.le_refl _) (Nat.mod_lt _ hp), Nat.mod_add_mod, Nat.add_mod_mod]
  congr 2
  show i - 0 + _ = _
  omega
def spInts : Sp := fun vs H Q _ => ∃ (a : Addr) (xs : List Int) (lo hi : Int), vs = [.ref a, .int lo, .int hi] ∧ TupI H a xs ∧ (∀ x ∈ xs, lo ≤ x ∧ x < hi) ∧ Q (.bl true) H
def spNormal : Sp := fun vs H Q _ => ∃ (p : Addr) (h l : List Int), vs = [.ref p] ∧ Las H p h l ∧ Nrm h l ∧ l.length ≤ 1000 ∧ ∀ H', Same H H' → Q (.bl true) H'
def spIsLasso : Sp := fun vs H Q _ => ∃ (p : Addr) (h l : List Int) (n : Int), vs = [.ref p, .int n] ∧ Las H p h l ∧ Nrm h l ∧ l.length ≤ 1000 ∧ (∀ x ∈ h, 0 ≤ x ∧ x < n) ∧ (∀ x ∈ l, 0 ≤ x ∧ x < n) ∧ ∀ H', Same H H' → Q (.bl true) H'
/-! the same word in other forms -/
theorem wat_mem {h l : List Int} (n : l ≠ []) (t : Nat) : wat h l t ∈ h ∨ wat h l t ∈ l := by
  have hl : 0 < l.length := List.length_pos_iff.mpr n
  unfold wat
  by_cases c : t < h.length
  · rw [if_pos c, List.getD_eq_getElem?_getD, List.getElem?_eq_getElem c]
    exact .inl (List.getElem_mem c)
  · have c2 := Nat.mod_lt (t - h.length) hl
    rw [if_neg c, List.getD_eq_getElem?_getD, List.getElem?_eq_getElem c2]
    exact .inr (List.getElem_mem c2)
theorem range_getD {f : Nat → Int} {n t : Nat} (c : t < n) : ((List.range n).map f).getD t 0 = f t := by
  rw [List.getD_eq_getElem?_getD, List.getElem?_map, List.getElem?_range c]
  rfl
theorem wat_form {h l : List Int} {m k : Nat} (n : l ≠ []) (hk : 0 < k) (t : Nat) :
    wat ((List.range (h.length + m)).map (wat h l)) ((List.range (k * l.length)).map fun t => wat h l (h.length + m + t)) t = wat h l t := by
  have hl : 0 < l.length := List.length_pos_iff.mpr n
  have hkl : 0 < k * l.length := Nat.mul_pos hk hl
  rw [show wat ((List.range (h.length + m)).map (wat h l)) ((List.range (k * l.length)).map fun t => wat h l (h.length + m + t)) t
      = if t < ((List.range (h.length + m)).map (wat h l)).length then ((List.range (h.length + m)).map (wat h l)).getD t 0 else ((List.range (k * l.length)).map fun t => wat h l (h.length + m + t)).getD ((t - ((List.range (h.length + m)).map (wat h l)).length) % ((List.range (k * l.length)).map fun t => wat h l (h.length + m + t)).length) 0 from rfl]
  rw [List.length_map, List.length_range, List.length_map, List.length_range]
  by_cases c : t < h.length + m
  · rw [if_pos c, range_getD c]
  · rw [if_neg c, range_getD (Nat.mod_lt _ hkl), wat_cyc (by omega), wat_cyc (by omega)]
    show lw l (_ % _) = lw l (_ % _)
    congr 1
    have e1 : h.length + m + (t - (h.length + m)) % (k * l.length) - h.length = m + (t - (h.length + m)) % (k * l.length) := by omega
    have e2 : t - h.length = m + (t - (h.length + m)) := by omega
    rw [e1, e2, ← Nat.add_mod_mod, Nat.mod_mod_of_dvd _ ⟨k, Nat.mul_comm k l.length⟩, Nat.add_mod_mod]
theorem wat_front (f h l : List Int) (i : Nat) : wat (f ++ h) l (f.length + i) = wat h l i := by
  unfold wat
  rw [List.length_append]
  by_cases c : i < h.length
  · rw [if_pos c, if_pos (by omega), List.getD_eq_getElem?_getD, List.getD_eq_getElem?_getD, List.getElem?_append_right (by omega), Nat.add_sub_cancel_left]
  · rw [if_neg c, if_neg (by omega), show f.length + i - (f.length + h.length) = i - h.length by omega]
def dLas (h l : List Int) : PyData := .tuple [.tuple (h.map PyData.int), .tuple (l.map PyData.int)]
theorem dp_las {K : PySem.W.Frag} {H : Hp} {p : Addr} {h l : List Int} (x : Las H p h l) : Dp K H (.ref p) (dLas h l) := by
  obtain ⟨a, b, e1, e2, e3⟩ := x
  exact .tup (.of e1) (.cons (dp_tup e2) (.cons (dp_tup e3) .nil))
theorem shaped_las (h l : List Int) : SeqAt.shaped (dLas h l) = true := by
  unfold SeqAt.shaped dLas
  rw [PyData.canLay0, PyData.canLayAll0, PyData.canLayAll0, PyData.canLayAll0, PyData.canLay0, layAll, PyData.canLay0, layAll, PyData.depth, PyData.depthAll, PyData.depthAll, PyData.depthAll, PyData.depth, depAll, PyData.depth, depAll]
  rfl
theorem eqv_las (h l : List Int) : PyData.eqv (dLas h l) (dLas h l) = true := by
  unfold dLas
  rw [PyData.eqv, PyData.eqvAll, PyData.eqvAll, PyData.eqvAll, eqv_tup, eqv_tup]
  simp
def spCell (K : PySem.W.Frag) : Sp := fun vs H Q _ => ∃ (a : Addr) (ns : List Int) (k : Nat), vs = [.ref a, .int k] ∧ SqL K H a (ns.map V.int) ∧ ∀ v : Int, Q (.int v) H
def spNegX (C : Addr) : Sp := fun vs H _ E => ∃ (p : Addr) (t : Int), vs = [.ref p, .int t] ∧ t < 0 ∧ E (.ref C) none H
def spRefuses : Sp := fun vs H Q _ => ∃ (p : Addr) (t : Int), vs = [.ref p, .int t] ∧ t < 0 ∧ Q (.bl true) H
def spSame : Sp := fun vs H Q _ => ∃ (p q : Addr) (h l h2 l2 : List Int), vs = [.ref p, .ref q] ∧ Pr H p h l ∧ Pr H q h2 l2 ∧ l ≠ [] ∧ l2 ≠ [] ∧ dfn h l h2 l2 ≤ 1000000 ∧ (∀ t, wat h l t = wat h2 l2 t) ∧ Q (.bl true) H
def spMakeX (cE cL : Addr) : Sp := fun vs H Q E => ∃ (a b : Addr) (h l : List Int), vs = [.ref a, .ref b] ∧ H a = some (.lst (h.map V.int)) ∧ H b = some (.lst (l.map V.int)) ∧ h.length ≤ 100000 ∧ l.length ≤ 100000 ∧
  (l = [] → E (.ref cE) none H) ∧ (l ≠ [] → (∃ x, (x ∈ h ∨ x ∈ l) ∧ x < 0) → E (.ref cL) none H) ∧
  (l ≠ [] → (∀ x, x ∈ h ∨ x ∈ l → 0 ≤ x) → ∀ (H' : Hp) (p : Addr) (h' l' : List Int), Same H H' → Las H' p h' l' → Short h l h' l' → Q (.ref p) H')
def spOut : Sp := fun vs H Q _ => ∃ (a b : Addr) (h l : List Int), vs = [.ref a, .ref b] ∧ H a = some (.lst (h.map V.int)) ∧ H b = some (.lst (l.map V.int)) ∧ h.length ≤ 100000 ∧ l.length ≤ 100000 ∧
  (l = [] → ∀ (H' : Hp) (p : Addr), Same H H' → H' p = some (.tup [.str "empty", .bl true]) → Q (.ref p) H') ∧
  (l ≠ [] → (∃ x, (x ∈ h ∨ x ∈ l) ∧ x < 0) → ∀ (H' : Hp) (p : Addr), Same H H' → H' p = some (.tup [.str "letter", .bl true]) → Q (.ref p) H') ∧
  (l ≠ [] → (∀ x, x ∈ h ∨ x ∈ l → 0 ≤ x) → ∀ (H' : Hp) (p q : Addr) (h' l' : List Int), Same H H' → H' p = some (.tup [.str "lasso", .ref q]) → Las H' q h' l' → Short h l h' l' → Q (.ref p) H')
theorem neg_cases (h l : List Int) : (∃ x, (x ∈ h ∨ x ∈ l) ∧ x < 0) ∨ ∀ x, x ∈ h ∨ x ∈ l → 0 ≤ x := by
  by_cases c : ∃ x, (x ∈ h ∨ x ∈ l) ∧ x < 0
  · exact .inl c
  · exact .inr fun x hx => by
      rcases Int.lt_or_le x 0 with z | z
      · exact absurd ⟨x, hx, z⟩ c
      · exact z
/-- the letters of first + s * second -/
def spCheckX (cL : Addr) : Sp := fun vs H Q E => ∃ (p : Addr) (h l : List Int) (n : Nat), vs = [.ref p, .int n] ∧ Las H p h l ∧ l ≠ [] ∧ h.length ≤ 1000 ∧ l.length ≤ 1000 ∧
  ((∃ x, (x ∈ h ∨ x ∈ l) ∧ (n : Int) ≤ x) → ∀ H', Same H H' → E (.ref cL) none H') ∧ ((∀ x, x ∈ h ∨ x ∈ l → x < n) → ∀ H', Same H H' → Q .non H')
def tab (tb : List Int) (x : Int) : Int := tb.getD x.toNat 0
def spRelX (cL : Addr) : Sp := fun vs H Q E => ∃ (p q : Addr) (h l tb : List Int), vs = [.ref p, .ref q] ∧ Las H p h l ∧ H q = some (.lst (tb.map V.int)) ∧ l ≠ [] ∧ h.length ≤ 1000 ∧ l.length ≤ 1000 ∧ (∀ x, x ∈ h ∨ x ∈ l → 0 ≤ x) ∧
  ((∃ x, (x ∈ h ∨ x ∈ l) ∧ (tb.length : Int) ≤ x) → ∀ H', Same H H' → E (.ref cL) none H') ∧
  ((∀ x, x ∈ h ∨ x ∈ l → x < (tb.length : Int)) → ∀ (H' : Hp) (p' : Addr) (h' l' : List Int), Same H H' → Las H' p' h' l' → Short (h.map (tab tb)) (l.map (tab tb)) h' l' → Q (.ref p') H')
def spRelOut : Sp := fun vs H Q _ => ∃ (p q : Addr) (h l tb : List Int), vs = [.ref p, .ref q] ∧ Las H p h l ∧ H q = some (.lst (tb.map V.int)) ∧ l ≠ [] ∧ h.length ≤ 1000 ∧ l.length ≤ 1000 ∧ (∀ x, x ∈ h ∨ x ∈ l → 0 ≤ x) ∧
  ∀ (v : V) (H' : Hp), Same H H' → (((∃ x, (x ∈ h ∨ x ∈ l) ∧ (tb.length : Int) ≤ x) ∧ v = .non) ∨ ((∀ x, x ∈ h ∨ x ∈ l → x < (tb.length : Int)) ∧ ∃ (p' : Addr) (h' l' : List Int), v = .ref p' ∧ Las H' p' h' l' ∧ Short (h.map (tab tb)) (l.map (tab tb)) h' l')) → Q v H'
def jw (h1 l1 h2 l2 : List Int) (s : Int) (t : Nat) : Int := wat h1 l1 t + s * wat h2 l2 t
def spComb : Sp := fun vs H Q _ => ∃ (p q : Addr) (h1 l1 h2 l2 : List Int) (s : Int), vs = [.ref p, .ref q, .int s] ∧ Las H p h1 l1 ∧ Las H q h2 l2 ∧ l1 ≠ [] ∧ l2 ≠ [] ∧ h1.length ≤ 20 ∧ l1.length ≤ 20 ∧ h2.length ≤ 20 ∧ l2.length ≤ 20 ∧ (∀ t, 0 ≤ wat h2 l2 t ∧ wat h2 l2 t < 1000) ∧
  ∀ (H' : Hp) (p' : Addr) (h' l' : List Int), Same H H' → Las H' p' h' l' → Nrm h' l' → (∀ t, wat h' l' t = jw h1 l1 h2 l2 s t) → h'.length ≤ 500 → l'.length ≤ 500 → (∀ x, x ∈ h' ∨ x ∈ l' → ∃ t, x = jw h1 l1 h2 l2 s t) → Q (.ref p') H'
def spJoint : Sp := fun vs H Q _ => ∃ (p q : Addr) (h1 l1 h2 l2 : List Int) (s : Int), vs = [.ref p, .ref q, .int s] ∧ Las H p h1 l1 ∧ Las H q h2 l2 ∧ l1 ≠ [] ∧ l2 ≠ [] ∧ h1.length ≤ 20 ∧ l1.length ≤ 20 ∧ h2.length ≤ 20 ∧ l2.length ≤ 20 ∧ (∀ t, 0 ≤ wat h2 l2 t ∧ wat h2 l2 t < 1000) ∧
  ∀ (H' : Hp) (p' : Addr) (h' l' : List Int), Same H H' → Las H' p' h' l' → l' ≠ [] → (∀ t, wat h' l' t = jw h1 l1 h2 l2 s t) → h'.length ≤ 500 → l'.length ≤ 500 → Q (.ref p') H'
/-- cutting the first letters of a word with two periods -/
theorem jw_cut {h1 l1 h2 l2 : List Int} {s : Int} {b m : Nat} (n1 : l1 ≠ []) (n2 : l2 ≠ []) (hb1 : h1.length ≤ b) (hb2 : h2.length ≤ b) (hm : 0 < m) (d1 : l1.length ∣ m) (d2 : l2.length ∣ m) (t : Nat) :
    wat (((List.range (b + m)).map (jw h1 l1 h2 l2 s)).take b) (((List.range (b + m)).map (jw h1 l1 h2 l2 s)).drop b) t = jw h1 l1 h2 l2 s t := by
  have e1 : (((List.range (b + m)).map (jw h1 l1 h2 l2 s)).take b).length = b := by
    rw [List.length_take, List.length_map, List.length_range]
    omega
  have e2 : (((List.range (b + m)).map (jw h1 l1 h2 l2 s)).drop b).length = m := by
    rw [List.length_drop, List.length_map, List.length_range]
    omega
  have gd : ∀ j, j < b + m → ((List.range (b + m)).map (jw h1 l1 h2 l2 s)).getD j 0 = jw h1 l1 h2 l2 s j := fun j hj => range_getD hj
  rw [show wat (((List.range (b + m)).map (jw h1 l1 h2 l2 s)).take b) (((List.range (b + m)).map (jw h1 l1 h2 l2 s)).drop b) t = if t < (((List.range (b + m)).map (jw h1 l1 h2 l2 s)).take b).length then (((List.range (b + m)).map (jw h1 l1 h2 l2 s)).take b).getD t 0 else (((List.range (b + m)).map (jw h1 l1 h2 l2 s)).drop b).getD ((t - (((List.range (b + m)).map (jw h1 l1 h2 l2 s)).take b).length) % (((List.range (b + m)).map (jw h1 l1 h2 l2 s)).drop b).length) 0 from rfl]
  rw [e1, e2]
  by_cases c : t < b
  · rw [if_pos c, List.getD_eq_getElem?_getD, List.getElem?_take, if_pos c, ← List.getD_eq_getElem?_getD, gd t (by omega)]
  · have hk := Nat.mod_lt (t - b) hm
    rw [if_neg c, List.getD_eq_getElem?_getD, List.getElem?_drop, ← List.getD_eq_getElem?_getD, gd _ (by omega)]
    have per : ∀ {h l : List Int}, h.length ≤ b → l.length ∣ m → wat h l (b + (t - b) % m) = wat h l t := fun {h l} hb d => by
      rw [wat_cyc (by omega), wat_cyc (by omega)]
      show lw l (_ % _) = lw l (_ % _)
      congr 1
      have x1 : b + (t - b) % m - h.length = (b - h.length) + (t - b) % m := by omega
      have x2 : t - h.length = (b - h.length) + (t - b) := by omega
      rw [x1, x2, ← Nat.add_mod_mod, Nat.mod_mod_of_dvd _ d, Nat.add_mod_mod]
    unfold jw
    rw [per hb1 d1, per hb2 d2]
def spIsInt : Sp := fun vs H Q _ => ∃ (i : Int), vs = [.int i] ∧ Q (.bl true) H
end Bx
/-! ### own errors, two levels below ValueError -/
namespace Bx
open PySem PySem.Spec PyProof.Rows L2
abbrev veB : List Value := [.type "ValueError", .type "Exception", .type "BaseException", .type "object"]
structure ErrC (K : PySem.W.Frag) (mg : Str → Option Value) (x : Str) (C : Addr) : Prop where
  g : mg x = some (.ref C)
  ex : PySem.W.excIn K C veB "ValueError.__new__" = true
  kp : PySem.W.keepIn K (.ref C) = true
  ty : PySem.W.typeIn K (.ref C) = some (.type "type")
  sf : PySem.W.subIn K (.ref C) (.ref C) = some true
  ec : ExcC K C
theorem ErrC.exm {K : PySem.W.Frag} {mg : Str → Option Value} {x : Str} {C : Addr} {cls : Value} {b : Bool} (e : ErrC K mg x C) (h : PySem.W.subIn K cls (.ref C) = some b) : PySem.W.exmOne K cls (.ref C) = some b := PySem.W.exm_ref e.ec.hs e.ec.hd e.ty h
theorem ErrC.me {K : PySem.W.Frag} {mg : Str → Option Value} {x : Str} {C : Addr} (e : ErrC K mg x C) : PySem.W.exmOne K (.ref C) (.ref C) = some true := e.exm e.sf
/-- raise X('..') -/
theorem ErrC.made {X : Cx} {C : Addr} {x m : Str} {j : Nat} {p p2 pos : Pos} (e : ErrC X.K X.mg x C) (hg : Gl X x) (hd : (x == ("__debug__" : Str)) = false := by decide) : PMk X (.Call (.Name x p) [.Constant (.str m) j p2] [] pos) (fun _ H Q => Q (.ref C) none H) :=
  pmk_own PySem.F.excBase_ValueError e.ex e.g e.kp (raises_own e.ec.hs e.ty) hg hd
/-- isinstance(e, c), e the exception that the suite holds -/
def rIsEx (K : PySem.W.Frag) (a : Addr) (cls : Value) (d : Option Addr) : List V → Hp → VK → Prop := fun xs H Q => ∃ D : Addr, cls = .ref D ∧ d = none ∧ ExcC K D ∧ rIsE K D a xs H Q
theorem call_isEx {X : Cx} {K : PySem.W.Frag} {a : Addr} {cls : Value} {d : Option Addr} {oe : Obj} {pn : List (Addr × Obj)} (h : X.K = K) (hz : Zc cls d oe) (hf : ∃ vs, oe.data = .fields vs) : CallR (X.suite a ((a, oe) :: pn)) (.builtin "isinstance") (rIsEx K a cls d) := by
  subst h
  intro pins s σ H xs us Q I r hw
  obtain ⟨D, rfl, rfl, C, hw⟩ := hw
  exact call_isE C hz hf pins s σ H xs us Q I r hw
/-- a def that may raise, by its name -/
structure CalX (P : Program) (w : World) (K : PySem.W.Frag) (mg : Str → Option Value) (base : Heap) (k : Nat) (x : Str) (sp : Sp) : Prop where
  ex : ∃ (f : Addr) (fd : FuncData) (ps : List Str), FnOk P w K mg base (L2.CX P w) k f fd ps sp ∧ mg x = some (.ref f) ∧ PySem.W.keepIn K (.ref f) = true ∧ Binds K fd ps []
theorem pe_cx {X : Cx} {k j : Nat} {x : Str} {sp : Sp} {W : WX} {p pos : Pos} {e : Expr} {es : List Expr} {t : TA} (c : CalX X.prog X.w X.K X.mg X.base k x sp) (hr : Room j X.A) (hk : k ≤ j) (tk : Takes X W) (hg : Gl X x) (ha : PA X (e :: es) t)
    (hdb : (x == ("__debug__" : Str)) = false := by decide) (he : starEach (e :: es) X.env = (false, eval e X.env) :: starEach es X.env := by rfl) (hpl : (backTo pos (starEach es X.env)).any (·.1) = false := by rfl) :
    PE X (.Call (.Name x p) (e :: es) [] pos) (tCallS sp (WE W) t) := by
  obtain ⟨f, fd, ps, F, hm, kp, b⟩ := c.ex
  exact pe_callS F (hr.mono hk) hg hm kp b (fun σ => passAt tk σ) ha hdb he hpl
end Bx
/-! ### several clauses, each with its name: own rule -/
namespace Bx
open PySem PySem.Spec PyProof.Rows L2
/-- what the clauses wish, one after the other: (class, the name's slot, the suite's reading) -/
def wAll (K : PySem.W.Frag) (Wo : WX) (D : Ends) : List (Value × Nat × (Addr → Value → Option Addr → TS)) → WX
  | [] => Wo
  | (c, i, ts) :: r => fun cls d σ H => ∃ b, PySem.W.exmOne K cls c = some b ∧
    (b = true → ∀ a, H a = none → ts a cls d { nx := fun σ' H' => D.nx (σ'.set i none) H', rt := D.rt, bk := fun σ' H' => D.bk (σ'.set i none) H', ct := fun σ' H' => D.ct (σ'.set i none) H' } (σ.set i (some (.ref a))) H) ∧
    (b = false → wAll K Wo D r cls d σ H)
inductive Clauses (Y : Cx) : List ExceptHandler → List (Value × Nat × (Addr → Value → Option Addr → TS)) → Prop
  | nil : Clauses Y [] []
  | cons {x n : Str} {c : Value} {i : Nat} {ts : Addr → Value → Option Addr → TS} {b0 : Stmt} {suite : List Stmt} {p p' : Pos} {cs : List ExceptHandler} {l : List (Value × Nat × (Addr → Value → Option Addr → TS))}
      (hc : Names Y x c) (hi : Y.N[i]? = some n) (hl : Y.env.kindOf n = some .local)
      (su : ∀ (a : Addr) (oe : Obj) (cls : Value) (d : Option Addr) (pn : List (Addr × Obj)), Zc cls d oe → (∃ vs, oe.data = .fields vs) → PSs (Y.suite a ((a, oe) :: pn)) (b0 :: suite) (ts a cls d)) (r : Clauses Y cs l) :
      Clauses Y (.ExceptHandler (some (.Name x p)) (some n) (b0 :: suite) p' :: cs) ((c, i, ts) :: l)
theorem ps_try_all {Y : Cx} {body : List Stmt} {c0 : ExceptHandler} {cs : List ExceptHandler} {l : List (Value × Nat × (Addr → Value → Option Addr → TS))} {pos : Pos} {tb : WX → TS} {Wo : WX}
    (ks : Y.stack = Y.env :: Y.outer) (kf : Y.env.frame = some Y.env.locals) (kN : Y.N.Nodup) (tk : Takes Y Wo)
    (kb : ∀ (W : WX) (pn : List (Addr × Obj)) (xe : Value → Shared → Prop), Takes (Y.tr pn xe) W → PassesOwn (model Y.prog Y.w) Y.A Y.env xe → PSs (Y.tr pn xe) body (tb W))
    (kh : Clauses Y (c0 :: cs) l) : PS Y (.Try body (c0 :: cs) [] [] pos) (fun D σ H => tb (wAll Y.K Wo D l) D σ H) := by
  refine ⟨fun pins u σ H D I hw => ?_⟩
  have okY := I.ok
  have fr := okY.frames
  rw [ks] at fr
  refine wpAny_Try_except ?_
  refine wpAny_mono ((kb (wAll Y.K Wo D l) (Y.pn ++ pins) (fun e u1 => wpAny (model Y.prog Y.w) Y.A (noteFrame e Y.env) (fun _ u2 => wpAny (model Y.prog Y.w) Y.A (setFlight e none) (fun _ u3 =>
    wpAny (model Y.prog Y.w) Y.A (handleBy e Y.env (c0 :: cs)) (SP Y pins D) Y.xe u3) Y.xe u2) Y.xe u1) (fun v g xx => ?_) PassesOwn.looking).run [] u σ H D (I.toTry _) hw) (fun f u1 q => ?_) (fun e u1 q => q)
  · obtain ⟨a, B, sI, pins1, σ1, H1, cls, d, rfl, Jt, nb, up, sk, na, os, ag, w⟩ := xx
    have J : Inv Y pins σ1 H1 sI := Jt.ofTry okY
    have sk1 : Sky B (Y.env :: Y.outer) a (Zc cls d) Y.env.locals g.heap := by rw [← ks]; exact sk
    show wpAny (model Y.prog Y.w) Y.A (noteFrame (.ref a) Y.env) _ _ _
    refine Sky.land Zc.steady fr kf sk1 fun g3 f3 u3 => ?_
    have I3 : Inv Y pins σ1 H1 { g with heap := g3 } := J.landed nb f3.1 (up.trans u3) os ag
    obtain ⟨o3, w3, at3, z3, dt3⟩ := f3.there
    have apart : ∀ {t : Heap} {o : Obj} {vs : Array Value}, t.FunFrames B (Y.env :: Y.outer) → t.get? a = some o → o.data = .fields vs → a ∉ frs (Y.env :: Y.outer) := fun {t o vs} ff e dd hm => by
      obtain ⟨_, o2, e2, q2⟩ := ff.mem hm
      rw [e] at e2
      cases e2
      exact q2 _ dd
    have n0 := apart f3.2.2.1 at3 dt3
    have nL : a ≠ Y.env.locals := fun z => n0 (List.mem_filterMap.mpr ⟨Y.env, List.mem_cons_self, by rw [kf, z]⟩)
    have nF : a ∉ Y.fs := fun hm => by
      obtain ⟨e, he, q⟩ := List.mem_filterMap.mp hm
      exact n0 (List.mem_filterMap.mpr ⟨e, List.mem_cons_of_mem _ he, q⟩)
    have T3 := I3.suite at3 dt3 na nL nF
    have all : ∀ {cs2 : List ExceptHandler} {l2 : List (Value × Nat × (Addr → Value → Option Addr → TS))}, Clauses Y cs2 l2 → wAll Y.K Wo D l2 cls d σ1 H1 →
        wpAny (model Y.prog Y.w) Y.A (handleBy (.ref a) Y.env cs2) (SP Y pins D) Y.xe { g with heap := g3 } := by
      intro cs2 l2 hk
      induction hk with
      | nil =>
        intro w
        refine wpAny_handleBy_nil ?_
        obtain ⟨_, _, _, oe, vs, T, oT, t2, he, hz, hd, h1, _⟩ := id f3
        unfold PySem.passOn
        refine wpAny_bind (wpAny_field he hd h1 ?_)
        rw [if_neg (show ¬ ((Value.ref T == Value.none) = true) from by simp)]
        have away : wpAny (model Y.prog Y.w) Y.A (setFlight (.ref a) Y.env.frame) (fun _ u4 => wpAny (model Y.prog Y.w) Y.A (throw (.ref a) : Sem Flow) (SP Y pins D) Y.xe u4) Y.xe { g with heap := g3 } := by
          rw [kf]
          refine HandSPX.setFlight_upZ f3 fun g4 q4 u4 => wpAny_throw (tk _ _ ?_)
          exact ⟨a, B, sI, pins, σ1, H1, cls, d, rfl, J, nb, (up.trans u3).trans u4, .inr (.inr (by rw [ks]; exact q4)), na, os, ag, w⟩
        first
          | exact wpAny_bind (wpAny_pure (wpAny_bind away))
          | exact wpAny_bind away
      | @cons x n c i ts b0 suite p p' cs3 l3 hc hi hl su r ih =>
        intro w
        obtain ⟨b, e1, yes, no⟩ := w
        refine wpAny_handleBy_cons (codeAny_handlers_test ?_) (by intro q; cases q)
        have LT : PySem.W.Looks (model Y.prog Y.w) g3 (typeOf (.ref a)) cls := fun A Q E s k q => wpAny_typeOf_ref (k _ _ at3) (by rw [z3.1]; exact q)
        have LM := PySem.W.exm_one (M := model Y.prog Y.w) (I3.kIn) LT e1
        have test : ∀ {Q : Value → Shared → Prop} {E : Value → Shared → Prop}, Q c { g with heap := g3 } → wpAny (model Y.prog Y.w) (Y.A.mark (some (.ref a))) (eval (.Name x p) Y.env) Q E { g with heap := g3 } := fun {Q E} q => by
          obtain ⟨hg, hdb, hm | ⟨hm, hv, hnn⟩⟩ := hc
          · exact ld_glob (X := Y.suite a ((a, o3) :: (Y.pn ++ pins))) T3 hg hm q hdb
          · exact ld_blt (X := Y.suite a ((a, o3) :: (Y.pn ++ pins))) T3 hg hm hv q hnn hdb
        refine test (LM.here ?_)
        cases b with
        | true =>
          refine codeAny_handlers_suite_as ?_
          refine HandSPX.lands_againZ f3 fun g4 f4 u4 => ?_
          have I4 : Inv Y pins σ1 H1 { g with heap := g4 } := J.landed nb f4.1 ((up.trans u3).trans u4) os ag
          obtain ⟨o4, w4, at4, z4, dt4⟩ := f4.there
          have T4 := I4.suite at4 dt4 na nL nF
          refine store_ok (X := Y.suite a ((a, o4) :: (Y.pn ++ pins))) (v := .ref a) T4 kN hi (.inl hl) rfl (fun u5 T5 => ?_) (.inr hl)
          refine wpAny_mono ((su a o4 cls d (Y.pn ++ pins) z4 ⟨_, dt4⟩).run [] u5 _ H1 _ T5 (yes rfl a na)) (fun f u6 q => ?_) (fun _ _ z => False.elim z)
          have fin : ∀ {σ6 : L2.St} {H6 : Hp} {Q : Shared → Prop}, Inv (Y.suite a ((a, o4) :: (Y.pn ++ pins))) [] σ6 H6 u6 → (∀ u7, Inv Y pins (σ6.set i none) H6 u7 → Q u7) →
              wpAny (model Y.prog Y.w) Y.A (do bindName Y.env n .none; unbindBehindTheSuite Y.env n p') (fun _ u7 => Q u7) Y.xe u6 := fun {σ6 H6 Q} T6 hq => gone_ok (T6.unsuite okY) kN hi hl hq
          cases f with
          | next =>
            obtain ⟨_, _, T6, q6⟩ := q
            exact fin T6 fun _ I7 => ⟨_, _, I7, q6⟩
          | brk =>
            obtain ⟨_, _, T6, q6⟩ := q
            exact fin T6 fun _ I7 => ⟨_, _, I7, q6⟩
          | cont =>
            obtain ⟨_, _, T6, q6⟩ := q
            exact fin T6 fun _ I7 => ⟨_, _, I7, q6⟩
          | ret v =>
            obtain ⟨_, _, _, T6, r6, q6⟩ := q
            exact fin T6 fun _ I7 => ⟨_, _, _, I7, r6, q6⟩
        | false =>
          show wpAny _ Y.A (handleBy (.ref a) Y.env cs3) _ _ _
          exact ih (no rfl)
    exact all kh w
  · cases f with
    | next =>
      obtain ⟨_, _, J1, q1⟩ := q
      exact wpAny_execs_nil ⟨_, _, J1.ofTry okY, q1⟩
    | brk =>
      obtain ⟨_, _, J1, q1⟩ := q
      exact ⟨_, _, J1.ofTry okY, q1⟩
    | cont =>
      obtain ⟨_, _, J1, q1⟩ := q
      exact ⟨_, _, J1.ofTry okY, q1⟩
    | ret v =>
      obtain ⟨_, _, _, J1, r1, q1⟩ := q
      exact ⟨_, _, _, J1.ofTry okY, r1, q1⟩
end Bx
/-! ### max of a tuple of ints, lcm: own rules -/
namespace MaxT
open PySem PySem.W PyProof.Rows
section
variable {prog : Program} {w : World} {A : Around} {E : Value → Shared → Prop} {s : Shared}
theorem walkT {l : Addr} {xs : Array (Int × Tok)} {Q : Value → Shared → Prop} (hh : A.handled = none) (ht : s.heap.IsTuple l (intItems xs)) (hne : 0 < xs.size)
    (h : ∀ v g tk, (intItems xs)[argBest (fun i j => decide (numAt xs i > numAt xs j)) (xs.size - 1)]? = some v → (∀ b o, s.heap.get? b = some o → g.get? b = some o) → Q v { s with heap := g, toks := tk }) :
    wpAny (model prog w) A (call (.builtin "max") [.ref l]) Q E s := by
  have ll : l < s.heap.objs.size := by
    obtain ⟨_, e, _⟩ := ht
    exact Heap.lt_size e
  refine call_max_walk (wpAny_pyIter_tuple ht ?_)
  refine ⟨_, _, _, _, _, _, _, rfl, Walks.tuple (A := A.in1) hh _ l (Nat.ne_of_lt ll) (intItems xs), ⟨⟨_, Heap.get?_push_size _ rfl, rfl, rfl⟩, ht.push _⟩, fun c hc => ?_, by simpa [intItems] using hne, CmpOf.ints_gt (numAt xs) (fun _ _ => intItems_at), fun v g tk hP hk => ?_⟩
  · show c < (s.heap.push _).objs.size
    rw [Heap.size_push]
    rcases List.mem_cons.mp hc with rfl | hc
    · exact Nat.lt_succ_self _
    · rcases List.mem_cons.mp hc with rfl | hc
      · exact Nat.lt_succ_of_lt ll
      · cases hc
  · refine h v g tk (by simpa [intItems] using hP) fun b o e => hk b o (fun hm => ?_) (Heap.get?_push_of_some _ e)
    have e1 : b = s.heap.objs.size := List.mem_singleton.mp hm
    rw [e1] at e
    exact absurd (Heap.lt_size e) (Nat.lt_irrefl _)
theorem rawT {l : Addr} {its : List Value} {ns : List Int} {Q : Value → Shared → Prop} (hh : A.handled = none) (hl : IsTup s.heap l its.toArray) (hi : IntsAre its ns) (hne : ns ≠ [])
    (h : ∀ (g : Heap) (tk : Nat) (m : Int) (t' : Tok), (∀ b o, s.heap.get? b = some o → g.get? b = some o) → m ∈ ns → (∀ y ∈ ns, y ≤ m) → Q (.int m t') { s with heap := g, toks := tk }) :
    wpAny (model prog w) A (call (.builtin "max") [.ref l]) Q E s := by
  obtain ⟨xs, e⟩ := hi.allInts.items
  have hn : numsOf (intItems xs).toList = ns := by rw [← e]; exact hi.numsOf
  rw [PySem.nums_intItems] at hn
  subst hn
  rw [e] at hl
  have c : 0 < xs.size := by
    rcases Nat.eq_zero_or_pos xs.size with z | z
    · refine absurd ?_ hne
      have : xs = #[] := Array.eq_empty_of_size_eq_zero z
      rw [this]
      rfl
    · exact z
  refine walkT hh hl c fun v g tk p1 keep => ?_
  obtain ⟨u, rfl⟩ := intItems_at p1
  obtain ⟨a1, a2⟩ := argBest_gt (numAt xs) (xs.size - 1)
  refine h g tk _ u keep ?_ fun y hy => ?_
  · rw [PySem.numAt_eq]
    refine PySem.getD_mem ?_
    rw [List.length_map, Array.length_toList]
    exact Nat.lt_of_le_of_lt a1 (by omega)
  · obtain ⟨j, hj, rfl⟩ := PySem.mem_getD hy
    rw [List.length_map, Array.length_toList] at hj
    rw [← PySem.numAt_eq]
    exact a2 j (by omega)
end
end MaxT
namespace Bx
open PySem PySem.Spec PyProof.Rows L2
def rMaxT (K : PySem.W.Frag) : List V → Hp → VK → Prop := fun xs H Q => ∃ (a : Addr) (ns : List Int), xs = [.ref a] ∧ SqT K H a (ns.map V.int) ∧ ns ≠ [] ∧ ∀ m, m ∈ ns → (∀ y ∈ ns, y ≤ m) → Q (.int m) H
theorem call_maxT {X : Cx} {K : PySem.W.Frag} (h : X.K = K) (hc : X.calm = true) : CallR X (.builtin "max") (rMaxT K) := by
  subst h
  intro pins s σ H xs us Q I r hw
  obtain ⟨a, ns, rfl, hs, hne, q⟩ := hw
  obtain ⟨its, rv, ht, _⟩ := I.tuple hs
  rw [Vals.ref1 r]
  exact MaxT.rawT (I.ok.hd hc) ht rv.ints hne fun g tk m t' hk h1 h2 => ⟨.int m, H, I.kept hk, ⟨_, rfl⟩, q m h1 h2⟩
/-- a built-in that the module has under a name of its own -/
theorem pe_callG {X : Cx} {id : String} {r : List V → Hp → VK → Prop} {x : Str} {p pos : Pos} {e : Expr} {es : List Expr} {t : TA} (hc : CallR X (.builtin id) r) (hg : Gl X x) (hm : X.mg x = some (.builtin id)) (ha : PA X (e :: es) t) (hdb : (x == ("__debug__" : Str)) = false := by decide)
    (he : starEach (e :: es) X.env = (false, eval e X.env) :: starEach es X.env := by rfl) (hpl : (backTo pos (starEach es X.env)).any (·.1) = false := by rfl) : PE X (.Call (.Name x p) (e :: es) [] pos) (tCB r t) := by
  refine ⟨fun pins s σ H Q I hw => ?_⟩
  refine wpAny_Call_Name_kw (ld_glob I hg hm ?_ hdb)
  exact PyProof.Rows.callWith_builtin1 (thn (ha.run pos pins s σ H _ I hw) fun us u ⟨vs, G, J, rv, qv⟩ => hc pins u σ G vs us Q J rv qv) he hpl
/-- lcm(n, m) of small numbers -/
theorem call_lcm {X : Cx} : CallR X (.builtin "math.lcm") (fun xs H Q => ∃ n m : Nat, xs = [.int n, .int m] ∧ 0 < n ∧ 0 < m ∧ n ≤ 1000000 ∧ m ≤ 1000000 ∧ Q (.int ((Nat.lcm n m : Nat) : Int)) H) := by
  intro pins s σ H xs us Q I r hw
  obtain ⟨n, m, rfl, hn, hm, hn1, hm1, q⟩ := hw
  obtain ⟨u1, u2, rfl, r1, r2⟩ := vals2 r
  obtain ⟨t1, rfl⟩ := r1
  obtain ⟨t2, rfl⟩ := r2
  have hl : Nat.lcm n m ≤ 1000000 * 1000000 := Nat.le_trans (Nat.le_of_dvd (Nat.mul_pos hn hm) (Nat.lcm_dvd (Nat.dvd_mul_right n m) (Nat.dvd_mul_left m n))) (Nat.mul_le_mul hn1 hm1)
  refine PySem.W.mg_lcm_v (c := ((Nat.lcm n m : Nat) : Int)) ?_ ?_ ?_ ?_ ⟨.int _, H, I.tok _, ⟨_, rfl⟩, q⟩
  · rw [Int.natAbs_natCast]; omega
  · rw [Int.natAbs_natCast]; omega
  · rw [Int.natAbs_natCast, Int.natAbs_natCast, Nat.lcm_comm 1 n, Nat.lcm_one_right]
  · rw [Int.natAbs_natCast]
    refine Nat.lt_of_le_of_lt (m := 63) ?_ (by decide)
    by_cases z : Nat.lcm n m = 0
    · rw [z]; decide
    · exact Nat.le_of_lt_succ ((Nat.log2_lt z).mpr (Nat.lt_of_le_of_lt hl (by decide)))
end Bx
local macro_rules | `(tactic| walk_at "bx") => `(tactic| repeat (first
  | refine ⟨_, rfl, ?_⟩
  | refine ⟨_, _, rfl, rfl, ?_⟩
  | refine ⟨rfl, ?_⟩
  | refine Or.inl ⟨_, rfl, ?_⟩
  | refine ⟨Or.inr ⟨by decide, by decide⟩, ?_⟩
  | refine ⟨Or.inl ⟨by decide, by decide⟩, ?_⟩
  | refine ⟨(show (0 : Int) < _ by decide), ?_⟩
  | refine ⟨⟨by decide, by decide⟩, ?_⟩
  | refine ⟨_, _, rfl, Or.inl (L2.SqL.of (by assumption)), ?_⟩
  | refine ⟨_, _, rfl, Or.inr (L2.SqT.of (by assumption)), ?_⟩
  | refine ⟨Or.inl ⟨rfl, _, L2.SqL.of (by assumption)⟩, ?_⟩
  | refine ⟨_, _, _, rfl, rfl, (by assumption), ?_⟩
  | refine ⟨_, _, rfl, rfl, (by assumption), ?_⟩
  | refine ⟨_, _, _, _, rfl, rfl, L2.SqT.of (by assumption), (by assumption), ?_⟩
  | refine ⟨_, _, _, _, rfl, rfl, L2.SqL.of (by assumption), (by assumption), ?_⟩
  | refine ⟨_, _, rfl, Bx.SeqI.sq (by assumption), ?_⟩
  | refine And.intro (by assumption) ?_))
local macro_rules | `(tactic| walk_at "nl") => `(tactic| ((try unfold L2.tNil); (try unfold L2.tNoPart)))

namespace My
open PySem PySem.Spec PyProof.Rows L2 Bx
def topS (i : Nat) : Stmt := PySem.Challenge.pw_reactivesynth_k03_relabel_and_combine.main.body.getD i (.Pass ⟨0, 0, 0, 0⟩)
abbrev s_shortest_lasso : Stmt := topS 6
abbrev N_shortest_lasso : List Str := ["head", "loop", "size", "kept", "cut"]
theorem sc_shortest_lasso : FnScope N_shortest_lasso ["head", "loop"] (defScope s_shortest_lasso) := ⟨rfl, rfl, rfl, by decide +kernel, rfl, by decide +kernel, by decide +kernel⟩
abbrev s_shortest_period : Stmt := topS 7
abbrev N_shortest_period : List Str := ["loop", "borders", "border", "at", "size"]
theorem sc_shortest_period : FnScope N_shortest_period ["loop"] (defScope s_shortest_period) := ⟨rfl, rfl, rfl, by decide +kernel, rfl, by decide +kernel, by decide +kernel⟩
abbrev s_letter_at : Stmt := topS 8
abbrev N_letter_at : List Str := ["lasso", "turn", "head", "loop"]
theorem sc_letter_at : FnScope N_letter_at ["lasso", "turn"] (defScope s_letter_at) := ⟨rfl, rfl, rfl, by decide +kernel, rfl, by decide +kernel, by decide +kernel⟩
abbrev s_relabel : Stmt := topS 9
abbrev N_relabel : List Str := ["lasso", "table", "head", "loop", "letter"]
theorem sc_relabel : FnScope N_relabel ["lasso", "table"] (defScope s_relabel) := ⟨rfl, rfl, rfl, by decide +kernel, rfl, by decide +kernel, by decide +kernel⟩
abbrev s_check_letters : Stmt := topS 10
abbrev N_check_letters : List Str := ["lasso", "letters", "head", "loop"]
theorem sc_check_letters : FnScope N_check_letters ["lasso", "letters"] (defScope s_check_letters) := ⟨rfl, rfl, rfl, by decide +kernel, rfl, by decide +kernel, by decide +kernel⟩
abbrev s_combine : Stmt := topS 11
abbrev N_combine : List Str := ["first", "second", "size", "short_first", "short_second", "start", "turns", "letters", "turn"]
theorem sc_combine : FnScope N_combine ["first", "second", "size"] (defScope s_combine) := ⟨rfl, rfl, rfl, by decide +kernel, rfl, by decide +kernel, by decide +kernel⟩
abbrev s_law_cell : Stmt := topS 13
abbrev N_law_cell : List Str := ["script", "k"]
theorem sc_law_cell : FnScope N_law_cell ["script", "k"] (defScope s_law_cell) := ⟨rfl, rfl, rfl, by decide +kernel, rfl, by decide +kernel, by decide +kernel⟩
abbrev s_law_draws : Stmt := topS 14
abbrev N_law_draws : List Str := ["script", "count", "cells", "found", "mixed", "k", "j", "cell", "again"]
theorem sc_law_draws : FnScope N_law_draws ["script", "count"] (defScope s_law_draws) := ⟨rfl, rfl, rfl, by decide +kernel, rfl, by decide +kernel, by decide +kernel⟩
abbrev s_law_take : Stmt := topS 15
abbrev N_law_take : List Str := ["draws", "limit"]
theorem sc_law_take : FnScope N_law_take ["draws", "limit"] (defScope s_law_take) := ⟨rfl, rfl, rfl, by decide +kernel, rfl, by decide +kernel, by decide +kernel⟩
abbrev s_law_is_integer : Stmt := topS 16
abbrev N_law_is_integer : List Str := ["actual"]
theorem sc_law_is_integer : FnScope N_law_is_integer ["actual"] (defScope s_law_is_integer) := ⟨rfl, rfl, rfl, by decide +kernel, rfl, by decide +kernel, by decide +kernel⟩
abbrev s_law_integers : Stmt := topS 17
abbrev N_law_integers : List Str := ["actual", "low", "high", "item"]
theorem sc_law_integers : FnScope N_law_integers ["actual", "low", "high"] (defScope s_law_integers) := ⟨rfl, rfl, rfl, by decide +kernel, rfl, by decide +kernel, by decide +kernel⟩
abbrev s_law_normal : Stmt := topS 18
abbrev N_law_normal : List Str := ["lasso", "head", "loop", "period"]
theorem sc_law_normal : FnScope N_law_normal ["lasso"] (defScope s_law_normal) := ⟨rfl, rfl, rfl, by decide +kernel, rfl, by decide +kernel, by decide +kernel⟩
abbrev s_law_is_lasso : Stmt := topS 19
abbrev N_law_is_lasso : List Str := ["actual", "letters"]
theorem sc_law_is_lasso : FnScope N_law_is_lasso ["actual", "letters"] (defScope s_law_is_lasso) := ⟨rfl, rfl, rfl, by decide +kernel, rfl, by decide +kernel, by decide +kernel⟩
abbrev s_law_at : Stmt := topS 20
abbrev N_law_at : List Str := ["lasso", "turn"]
theorem sc_law_at : FnScope N_law_at ["lasso", "turn"] (defScope s_law_at) := ⟨rfl, rfl, rfl, by decide +kernel, rfl, by decide +kernel, by decide +kernel⟩
abbrev s_law_same : Stmt := topS 21
abbrev N_law_same : List Str := ["first", "second", "limit", "turn"]
theorem sc_law_same : FnScope N_law_same ["first", "second"] (defScope s_law_same) := ⟨rfl, rfl, rfl, by decide +kernel, rfl, by decide +kernel, by decide +kernel⟩
abbrev s_law_lasso : Stmt := topS 22
abbrev N_law_lasso : List Str := ["draws", "letters", "longest", "head", "loop", "k"]
theorem sc_law_lasso : FnScope N_law_lasso ["draws", "letters", "longest"] (defScope s_law_lasso) := ⟨rfl, rfl, rfl, by decide +kernel, rfl, by decide +kernel, by decide +kernel⟩
abbrev s_law_joint : Stmt := topS 23
abbrev N_law_joint : List Str := ["first", "second", "factor", "begin", "period", "letters", "turn"]
theorem sc_law_joint : FnScope N_law_joint ["first", "second", "factor"] (defScope s_law_joint) := ⟨rfl, rfl, rfl, by decide +kernel, rfl, by decide +kernel, by decide +kernel⟩
abbrev s_law_outcome : Stmt := topS 24
abbrev N_law_outcome : List Str := ["lasso", "table"]
theorem sc_law_outcome : FnScope N_law_outcome ["lasso", "table"] (defScope s_law_outcome) := ⟨rfl, rfl, rfl, by decide +kernel, rfl, by decide +kernel, by decide +kernel⟩
abbrev s_law : Stmt := topS 25
abbrev N_law : List Str := ["script", "draws", "first", "second", "size", "table", "passed", "found", "outside", "heads", "both", "k", "letter"]
theorem sc_law : FnScope N_law ["script"] (defScope s_law) := ⟨rfl, rfl, rfl, by decide +kernel, rfl, by decide +kernel, by decide +kernel⟩
structure Has (K : PySem.W.Frag) (mg : Str → Option Value) (x : Str) (st : Stmt) (ps : List Str) : Prop where
  ex : ∃ (f : Addr) (fd : FuncData), L2.Fun K x x st f fd ∧ mg x = some (.ref f) ∧ Binds K fd ps []
structure Txt (K : PySem.W.Frag) (mg : Str → Option Value) : Prop where
  h_shortest_lasso : Has K mg "shortest_lasso" s_shortest_lasso ["head", "loop"]
  h_shortest_period : Has K mg "shortest_period" s_shortest_period ["loop"]
  h_letter_at : Has K mg "letter_at" s_letter_at ["lasso", "turn"]
  h_relabel : Has K mg "relabel" s_relabel ["lasso", "table"]
  h_check_letters : Has K mg "check_letters" s_check_letters ["lasso", "letters"]
  h_combine : Has K mg "combine" s_combine ["first", "second", "size"]
  h_law_cell : Has K mg "_law_cell" s_law_cell ["script", "k"]
  h_law_draws : Has K mg "_law_draws" s_law_draws ["script", "count"]
  h_law_take : Has K mg "_law_take" s_law_take ["draws", "limit"]
  h_law_is_integer : Has K mg "_law_is_integer" s_law_is_integer ["actual"]
  h_law_integers : Has K mg "_law_integers" s_law_integers ["actual", "low", "high"]
  h_law_normal : Has K mg "_law_normal" s_law_normal ["lasso"]
  h_law_is_lasso : Has K mg "_law_is_lasso" s_law_is_lasso ["actual", "letters"]
  h_law_at : Has K mg "_law_at" s_law_at ["lasso", "turn"]
  h_law_same : Has K mg "_law_same" s_law_same ["first", "second"]
  h_law_lasso : Has K mg "_law_lasso" s_law_lasso ["draws", "letters", "longest"]
  h_law_joint : Has K mg "_law_joint" s_law_joint ["first", "second", "factor"]
  h_law_outcome : Has K mg "_law_outcome" s_law_outcome ["lasso", "table"]
  z_bool : mg "bool" = none
  z_int : mg "int" = none
  z_isinstance : mg "isinstance" = none
  z_len : mg "len" = none
  z_list : mg "list" = none
  z_max : mg "max" = none
  z_range : mg "range" = none
  z_tuple : mg "tuple" = none
  er : ∃ (cL : Addr), ErrC K mg "InvalidLetter" cL ∧ mg "lcm" = some (.builtin "math.lcm")

-- BODY
def spLaw (K : PySem.W.Frag) : Sp := fun vs H Q _ => ∃ (a : Addr) (ns : List Int), vs = [.ref a] ∧ SqL K H a (ns.map V.int) ∧ ns.length ≤ 63 ∧ ∀ H', Q (.bl true) H'
section
variable {P : Program} {w : World} {K : PySem.W.Frag} {mg : Str → Option Value} {base : Heap}
theorem cal_take (T : Txt K mg) : C8.Cal P w K mg base 1 "_law_take" spTake [] := by
  obtain ⟨f, fd, F, hm, hb⟩ := T.h_law_take
  refine ⟨f, fd, _, [], F.ok sc_law_take (fun vs H Q E h => ?_) (fun cdv A outer s H vs Q E hr h => ?_), hm, F.kp, hb, .nil⟩
  · obtain ⟨d, n, rfl, _⟩ := h
    rfl
  · obtain ⟨d, n, rfl, ⟨ds, hd⟩, hn, q⟩ := h
    refine ⟨_, (pss_cons
      (ps_if (pt_cmpR op_eq (pe_callB (call_lenK (K := K) rfl) (by rfl) T.z_len PySem.boot_len (pa_cons (pv 0) pa_nil)) pe_int (nomark _)) (pss_one
      (ps_ret pe_int)) pss_nil)
      (pss_one
      (ps_ret (pe_op op_mod (pe_callTy call_int1 (by rfl) T.z_int (by decide +kernel) (pa_cons (pe_bm0 PySem.F.plainAttrs_list PySem.F.slot_list_pop PySem.F.type_list_pop mt_pop (pv 0)) pa_nil)) (pv 1))))), ?_⟩
    walk_at "bx"
    refine ite2 (fun e => ?_) (fun e => ?_)
    · have q0 := q 0 ds (Int.le_refl 0) hn
      rw [upd_self hd] at q0
      exact q0
    · have hne : ds ≠ [] := fun z => e (by rw [z]; rfl)
      refine ⟨_, rfl, .inl ⟨rfl, _, SqL.of hd⟩, d, _, .int (ds.getLast hne), rfl, rfl, hd, ?_, ?_⟩
      · rw [List.length_map, List.getElem?_map, ← List.getLast?_eq_getElem?, List.getLast?_eq_getLast hne]
        rfl
      · walk_at "bx"
        rw [← List.map_dropLast]
        exact q _ _ (Int.emod_nonneg _ (by omega)) (Int.emod_lt_of_pos _ hn)
theorem cal_isint (T : Txt K mg) : C8.Cal P w K mg base 1 "_law_is_integer" spIsInt [] := by
  obtain ⟨f, fd, F, hm, hb⟩ := T.h_law_is_integer
  refine ⟨f, fd, _, [], F.ok sc_law_is_integer (fun vs H Q E h => ?_) (fun cdv A outer s H vs Q E hr h => ?_), hm, F.kp, hb, .nil⟩
  · obtain ⟨i, rfl, _⟩ := h
    rfl
  · obtain ⟨i, rfl, q⟩ := h
    refine ⟨_, (pss_one
      (ps_ret (pe_and (pe_callB (call_isiK' (K := K) rfl) (by rfl) T.z_isinstance (by decide +kernel) (pa_cons (pv 0) (pa_cons (pe_bltn (v := .ty "int") (by rfl) T.z_int (by decide +kernel) rfl) pa_nil))) (pe_one (pe_not (pe_callB (call_isiK' (K := K) rfl) (by rfl) T.z_isinstance (by decide +kernel) (pa_cons (pv 0) (pa_cons (pe_bltn (v := .ty "bool") (by rfl) T.z_bool (by decide +kernel) rfl) pa_nil)))))))), ?_⟩
    refine ⟨_, rfl, _, _, _, _, true, rfl, .ty "int", .base (.int i), kit_ty (by decide +kernel), true, rfl, iteT ?_⟩
    exact ⟨_, rfl, _, _, _, _, false, rfl, .ty "bool", .base (.int i), kit_ty (by decide +kernel), false, rfl, q⟩
theorem cal_draws (T : Txt K mg) : C8.Cal P w K mg base 1 "_law_draws" (spDraws K) [] := by
  obtain ⟨f, fd, F, hm, hb⟩ := T.h_law_draws
  refine ⟨f, fd, _, [], F.ok sc_law_draws (fun vs H Q E h => ?_) (fun cdv A outer s H vs Q E hr h => ?_), hm, F.kp, hb, .nil⟩
  · obtain ⟨a, ns, c, rfl, _⟩ := h
    rfl
  · obtain ⟨a, ns, n, rfl, hS, hn, q⟩ := h
    refine ⟨_, (pss_cons
      (ps_set (i := 2) sc_law_draws.nd rfl (Or.inl rfl) (pe_callTy (call_list_ofK (K := K) rfl) (by rfl) T.z_list (by decide +kernel) (pa_cons (pv 0) pa_nil)))
      (C8.pss_cut
      (ps_if (pt_cmpR op_eq (pe_callB (call_lenK (K := K) rfl) (by rfl) T.z_len PySem.boot_len (pa_cons (pv 2) pa_nil)) pe_int (nomark _)) (pss_one
      (ps_set (i := 2) sc_law_draws.nd rfl (Or.inl rfl) (pe_lst (pa_cons pe_int pa_nil)))) pss_nil)
      (pss_cons
      (ps_set (i := 3) sc_law_draws.nd rfl (Or.inl rfl) (pe_lst pa_nil))
      (pss_cons
      (ps_set (i := 4) sc_law_draws.nd rfl (Or.inl rfl) pe_int)
      (pss_cons
      (ps_for PassesOwn.never rfl (pi_range1 (by rfl) T.z_range (pa_cons (pv 1) pa_nil)) (pg_name (i := 5) sc_law_draws.nd rfl (.inl rfl)) (pss_cons
      (ps_set (i := 6) sc_law_draws.nd rfl (Or.inl rfl) (pe_op op_mod (pv 5) (pe_callB (call_lenK (K := K) rfl) (by rfl) T.z_len PySem.boot_len (pa_cons (pv 2) pa_nil))))
      (pss_cons
      (ps_set (i := 7) sc_law_draws.nd rfl (Or.inl rfl) (pe_ix (ix_listK (K := K) rfl) (pv 2) (pv 6) (fun _ _ => rfl)))
      (pss_cons
      (ps_set (i := 4) sc_law_draws.nd rfl (Or.inl rfl) (pe_op op_mod (pe_callTy call_int1 (by rfl) T.z_int (by decide +kernel) (pa_cons (pe_op op_add (pe_op op_add (pe_op op_add (pe_op op_mul (pv 4) pe_int) (pe_op op_mul (pe_op op_mod (pe_callTy call_int1 (by rfl) T.z_int (by decide +kernel) (pa_cons (pv 7) pa_nil)) pe_int) pe_int)) (pe_op op_mul (pv 5) pe_int)) pe_int) pa_nil)) pe_int))
      (pss_cons
      (ps_set (i := 8) sc_law_draws.nd rfl (Or.inl rfl) (pe_op op_mod (pe_callTy call_int1 (by rfl) T.z_int (by decide +kernel) (pa_cons (pe_op op_add (pe_op op_add (pe_op op_mul (pv 4) (pv 4)) (pe_op op_mul pe_int (pv 4))) (pv 5)) pa_nil)) pe_int))
      (pss_one
      (ps_if (pt_cmpR op_ge (pv 7) (pe_op op_pow pe_int pe_int) (nomark _)) (pss_cons
      (ps_expr (pe_bm PySem.F.plainAttrs_list PySem.F.slot_list_append PySem.F.type_list_append mt_append (pv 3) (pa_cons (pe_op op_mod (pe_callTy call_int1 (by rfl) T.z_int (by decide +kernel) (pa_cons (pv 7) pa_nil)) pe_int) pa_nil)))
      (pss_one
      (ps_asg (pe_op op_fdiv (pv 7) pe_int) (pg_sub (pv 2) (pv 6) set_list)))) (pss_one
      (ps_expr (pe_bm PySem.F.plainAttrs_list PySem.F.slot_list_append PySem.F.type_list_append mt_append (pv 3) (pa_cons (pe_op op_mod (pe_callTy call_int1 (by rfl) T.z_int (by decide +kernel) (pa_cons (pv 8) pa_nil)) pe_int) pa_nil)))))))))))
      (pss_cons
      (ps_expr (pe_bm0 PySem.F.plainAttrs_list PySem.F.slot_list_reverse PySem.F.type_list_reverse mt_reverse (pv 3)))
      (pss_one
      (ps_ret (pv 3))))))))), ?_⟩
    -- cells = list(script)
    refine ⟨_, rfl, a, _, rfl, .inl hS, fun l hl => ?_⟩
    -- if len(cells) == 0: cells = [7]
    refine ⟨fun σ H2 => ∃ (c : Addr) (cs : List Int), σ = [some (.ref a), some (.int n), some (.ref c), none, none, none, none, none, none] ∧ H c = none ∧ Same H H2 ∧ H2 c = some (.lst (cs.map V.int)) ∧ cs ≠ [], ?_, ?_⟩
    · have h0 : (upd H l (.lst (ns.map V.int))) l = some (.lst (ns.map V.int)) := upd_same
      walk_at "bx"
      refine ite2 (fun e => ?_) (fun e => ?_)
      · refine ⟨by show 1 ≤ sizeLine; decide, fun l2 h2 => ?_⟩
        have s1 : Same H (upd H l (.lst (ns.map V.int))) := same_new hl
        exact ⟨l2, [7], rfl, s1.free h2, s1.trans (same_new h2), upd_same, by decide⟩
      · exact ⟨l, ns, rfl, hl, same_new hl, upd_same, fun z => e (by rw [z]; rfl)⟩
    · rintro σ H2 ⟨c, cs, rfl, hc0, s2, hc, hcs⟩
      -- found = [], mixed = 12345
      refine ⟨Nat.zero_le _, fun o ho => ?_⟩
      have hco : c ≠ o := ne_of_none hc ho
      have ho0 : H o = none := s2.free ho
      -- for k in range(count)
      refine ⟨_, rfl, _, rfl, by omega, by omega, for_range (lo := 0) (n := ((n : Int)).toNat) (fun i σ H3 => ∃ (m : Int) (cs fs : List Int) (v5 v6 v7 v8 : Option V), σ = [some (.ref a), some (.int n), some (.ref c), some (.ref o), some (.int m), v5, v6, v7, v8] ∧ 0 ≤ m ∧ m < 2147483647 ∧ Same H H3 ∧ H3 c = some (.lst (cs.map V.int)) ∧ cs ≠ [] ∧ H3 o = some (.lst (fs.map V.int)) ∧ fs.length ≤ i)
        ⟨12345, cs, [], none, none, none, none, rfl, by decide, by decide, s2.trans (same_new ho), by rw [upd_ne hco]; exact hc, hcs, upd_same, Nat.le_refl _⟩ ?_ ?_⟩
      · rintro i σ H3 hi ⟨m, cs, fs, v5, v6, v7, v8, rfl, m0, m1, s3, hc, hcs, hf, hfl⟩
        have hl : 0 < cs.length := List.length_pos_iff.mpr hcs
        obtain ⟨z, hz⟩ : ∃ z, cs[i % cs.length]? = some z := ⟨_, List.getElem?_eq_getElem (Nat.mod_lt _ hl)⟩
        have ej : ((0 : Int) + (i : Int)) % (((cs.map V.int).length : Nat) : Int) = ((i % cs.length : Nat) : Int) := by
          rw [Int.zero_add, List.length_map]
          rfl
        -- j = k % len(cells)
        walk_at "bx"
        refine ⟨(show (0 : Int) < _ by rw [List.length_map]; omega), ?_⟩
        -- cell = cells[j]
        refine ⟨_, rfl, _, rfl, c, _, _, .int z, rfl, rfl, SqL.of hc, ?_, ?_⟩
        · rw [ej]
          exact atI_nat (by rw [List.getElem?_map, hz]; rfl)
        -- mixed, again
        walk_at "bx"
        have b1 : (0 : Int) ≤ z % 1000003 := Int.emod_nonneg _ (by decide)
        refine ⟨.inl ⟨?_, ?_⟩, ?_⟩
        · have := Int.emod_nonneg (m * 48271 + z % 1000003 * 69621 + (0 + (i : Int)) * 7919 + 11) (show (2147483647 : Int) ≠ 0 by decide)
          show -(2 ^ 64) < (m * 48271 + z % 1000003 * 69621 + (0 + (i : Int)) * 7919 + 11) % 2147483647
          omega
        · have := Int.emod_lt_of_pos (m * 48271 + z % 1000003 * 69621 + (0 + (i : Int)) * 7919 + 11) (show (0 : Int) < 2147483647 by decide)
          show (m * 48271 + z % 1000003 * 69621 + (0 + (i : Int)) * 7919 + 11) % 2147483647 < 2 ^ 64
          omega
        have c0 : 0 ≤ (m * 48271 + z % 1000003 * 69621 + (0 + (i : Int)) * 7919 + 11) % 2147483647 := Int.emod_nonneg _ (by decide)
        have c1 : (m * 48271 + z % 1000003 * 69621 + (0 + (i : Int)) * 7919 + 11) % 2147483647 < 2147483647 := Int.emod_lt_of_pos _ (by decide)
        walk_at "bx"
        refine ite2 (fun e => ?_) (fun e => ?_)
        · walk_at "bx"
          refine ⟨lenI (by omega), ?_⟩
          walk_at "bx"
          refine ⟨c, cs.map V.int, _, i % cs.length, rfl, rfl, by rw [upd_ne hco]; exact hc, by rw [ej]; exact ixN_at (by rw [List.length_map]; exact Nat.mod_lt _ hl), ?_⟩
          refine ⟨_, cs.set (i % cs.length) (z / 1000), fs ++ [z % 1000], _, _, _, _, rfl, c0, c1, fun b o' hb => ?_, by rw [upd_same, set_mapI], by simpa using hcs, by rw [upd_ne hco.symm, upd_same]; simp, by simp; omega⟩
          rw [upd_ne (fun z => by rw [z, hc0] at hb; cases hb), upd_ne (fun z => by rw [z, ho0] at hb; cases hb)]
          exact s3 _ _ hb
        · walk_at "bx"
          refine ⟨lenI (by omega), ?_⟩
          refine ⟨_, cs, fs ++ [_], _, _, _, _, rfl, c0, c1, fun b o' hb => ?_, by rw [upd_ne hco]; exact hc, hcs, by rw [upd_same, List.map_append]; rfl, by simp; omega⟩
          rw [upd_ne (fun z => by rw [z, ho0] at hb; cases hb)]
          exact s3 _ _ hb
      · rintro σ H3 ⟨m, cs, fs, v5, v6, v7, v8, rfl, m0, m1, s3, hc, hcs, hf, hfl⟩
        -- found.reverse()
        walk_at "bx"
        refine q _ o (fun b o' hb => ?_) ho0 ⟨fs.reverse, ?_⟩
        · rw [upd_ne (fun z => by rw [z, ho0] at hb; cases hb)]
          exact s3 _ _ hb
        · rw [upd_same, List.map_reverse]
theorem cal_at (T : Txt K mg) : C8.Cal P w K mg base 1 "_law_at" spAt [] := by
  obtain ⟨f, fd, F, hm, hb⟩ := T.h_law_at
  refine ⟨f, fd, _, [], F.ok sc_law_at (fun vs H Q E h => ?_) (fun cdv A outer s H vs Q E hr h => ?_), hm, F.kp, hb, .nil⟩
  · obtain ⟨p, h, l, t, rfl, _⟩ := h
    rfl
  · obtain ⟨p, h, l, t, rfl, ⟨a, b, e1, e2, e3⟩, hn, q⟩ := h
    have i0 : atI [V.ref a, V.ref b] 0 = some (.ref a) := rfl
    have i1 : atI [V.ref a, V.ref b] 1 = some (.ref b) := rfl
    have hl : 0 < l.length := List.length_pos_iff.mpr hn
    refine ⟨_, (pss_cons
      (ps_if (pt_cmpR op_lt (pv 1) (pe_callB (call_lenK (K := K) rfl) (by rfl) T.z_len PySem.boot_len (pa_cons (pe_ix (ix_tupK (K := K) rfl) (pv 0) pe_int (fun _ _ => rfl)) pa_nil)) (nomark _)) (pss_one
      (ps_ret (pe_ix (ix_seqK (K := K) rfl) (pe_ix (ix_tupK (K := K) rfl) (pv 0) pe_int (fun _ _ => rfl)) (pv 1) (fun _ _ => rfl)))) pss_nil)
      (pss_one
      (ps_ret (pe_ix (ix_seqK (K := K) rfl) (pe_ix (ix_tupK (K := K) rfl) (pv 0) pe_int (fun _ _ => rfl)) (pe_op op_mod (pe_callTy call_int1 (by rfl) T.z_int (by decide +kernel) (pa_cons (pe_op op_sub (pv 1) (pe_callB (call_lenK (K := K) rfl) (by rfl) T.z_len PySem.boot_len (pa_cons (pe_ix (ix_tupK (K := K) rfl) (pv 0) pe_int (fun _ _ => rfl)) pa_nil))) pa_nil)) (pe_callB (call_lenK (K := K) rfl) (by rfl) T.z_len PySem.boot_len (pa_cons (pe_ix (ix_tupK (K := K) rfl) (pv 0) pe_int (fun _ _ => rfl)) pa_nil))) (fun _ _ => rfl))))), ?_⟩
    walk_at "bx"
    refine ite2 (fun e => ?_) (fun e => ?_)
    · have e0 : t < h.length := by
        have := of_decide_eq_true e
        rw [List.length_map] at this
        omega
      walk_at "bx"
      exact ixq e2 rfl (wat_head e0) q
    · have e0 : ¬ t < h.length := fun z => e (decide_eq_true (by rw [List.length_map]; omega))
      walk_at "bx"
      refine ⟨(show (0 : Int) < _ by rw [List.length_map]; omega), ?_⟩
      exact ixq e3 (by rw [List.length_map, List.length_map]; exact ix_mod (Nat.le_of_not_lt e0)) (wat_loop e0 hn) q
theorem cal_letter (T : Txt K mg) : C8.Cal P w K mg base 1 "letter_at" spAt [] := by
  obtain ⟨f, fd, F, hm, hb⟩ := T.h_letter_at
  refine ⟨f, fd, _, [], F.ok sc_letter_at (fun vs H Q E h => ?_) (fun cdv A outer s H vs Q E hr h => ?_), hm, F.kp, hb, .nil⟩
  · obtain ⟨p, h, l, t, rfl, _⟩ := h
    rfl
  · obtain ⟨p, h, l, t, rfl, ⟨a, b, e1, e2, e3⟩, hn, q⟩ := h
    have hl : 0 < l.length := List.length_pos_iff.mpr hn
    refine ⟨_, (pss_cons
      (ps_if (pt_cmpR op_lt (pv 1) pe_int (nomark _)) (pss_one
      ps_never) pss_nil)
      (pss_cons
      (ps_asg (pv 0) (pg_tup (by rfl) (pgs_cons (pg_name (i := 2) sc_letter_at.nd rfl (.inl rfl)) (pgs_cons (pg_name (i := 3) sc_letter_at.nd rfl (.inl rfl)) pgs_nil))))
      (pss_cons
      (ps_if (pt_cmpR op_lt (pv 1) (pe_callB (call_lenK (K := K) rfl) (by rfl) T.z_len PySem.boot_len (pa_cons (pv 2) pa_nil)) (nomark _)) (pss_one
      (ps_ret (pe_ix (ix_seqK (K := K) rfl) (pv 2) (pv 1) (fun _ _ => rfl)))) pss_nil)
      (pss_one
      (ps_ret (pe_ix (ix_seqK (K := K) rfl) (pv 3) (pe_op op_mod (pe_op op_sub (pv 1) (pe_callB (call_lenK (K := K) rfl) (by rfl) T.z_len PySem.boot_len (pa_cons (pv 2) pa_nil))) (pe_callB (call_lenK (K := K) rfl) (by rfl) T.z_len PySem.boot_len (pa_cons (pv 3) pa_nil))) (fun _ _ => rfl))))))), ?_⟩
    walk_at "bx"
    refine ⟨p, _, rfl, .of e1, rfl, _, _, rfl, _, _, rfl, rfl, ?_⟩
    walk_at "bx"
    refine ite2 (fun e => ?_) (fun e => ?_)
    · have e0 : t < h.length := by
        have := of_decide_eq_true e
        rw [List.length_map] at this
        omega
      exact ⟨_, rfl, _, rfl, ixq e2 rfl (wat_head e0) q⟩
    · have e0 : ¬ t < h.length := fun z => e (decide_eq_true (by rw [List.length_map]; omega))
      walk_at "bx"
      refine ⟨(show (0 : Int) < _ by rw [List.length_map]; omega), ?_⟩
      exact ixq e3 (by rw [List.length_map, List.length_map]; exact ix_mod (Nat.le_of_not_lt e0)) (wat_loop e0 hn) q
theorem cal_cell (T : Txt K mg) : C8.Cal P w K mg base 1 "_law_cell" (spCell K) [] := by
  obtain ⟨f, fd, F, hm, hb⟩ := T.h_law_cell
  refine ⟨f, fd, _, [], F.ok sc_law_cell (fun vs H Q E h => ?_) (fun cdv A outer s H vs Q E hr h => ?_), hm, F.kp, hb, .nil⟩
  · obtain ⟨a, ns, k, rfl, _⟩ := h
    rfl
  · obtain ⟨a, ns, k, rfl, hS, q⟩ := h
    refine ⟨_, (pss_cons
      (ps_if (pt_cmpR op_lt (pv 1) (pe_callB (call_lenK (K := K) rfl) (by rfl) T.z_len PySem.boot_len (pa_cons (pv 0) pa_nil)) (nomark _)) (pss_one
      (ps_ret (pe_ix (ix_listK (K := K) rfl) (pv 0) (pv 1) (fun _ _ => rfl)))) pss_nil)
      (pss_one
      (ps_ret pe_int))), ?_⟩
    refine ⟨_, rfl, _, rfl, a, _, rfl, .inl hS, _, _, rfl, rfl, _, rfl, ite_lt (fun c => ?_) (fun _ => q 0)⟩
    rw [List.length_map] at c
    exact ⟨_, rfl, _, rfl, a, _, _, _, rfl, rfl, hS, atI_nat (at_map (by omega)), q _⟩
theorem cal_period (T : Txt K mg) : C8.Cal P w K mg base 1 "shortest_period" spPeriod [] := by
  obtain ⟨f, fd, F, hm, hb⟩ := T.h_shortest_period
  refine ⟨f, fd, _, [], F.ok sc_shortest_period (fun vs H Q E h => ?_) (fun cdv A outer s H vs Q E hr h => ?_), hm, F.kp, hb, .nil⟩
  · obtain ⟨a, l, rfl, _⟩ := h
    rfl
  · obtain ⟨a, l, rfl, hl, hne, hlen, q⟩ := h
    have hn : 0 < l.length := List.length_pos_iff.mpr hne
    refine ⟨_, (pss_cons
      (ps_set (i := 1) sc_shortest_period.nd rfl (Or.inl rfl) (pe_lst (pa_cons pe_int pa_nil)))
      (pss_cons
      (ps_set (i := 2) sc_shortest_period.nd rfl (Or.inl rfl) pe_int)
      (pss_cons
      (ps_for PassesOwn.never rfl (pi_range2 (by rfl) T.z_range (pa_cons pe_int (pa_cons (pe_callB (call_lenK (K := K) rfl) (by rfl) T.z_len PySem.boot_len (pa_cons (pv 0) pa_nil)) pa_nil))) (pg_name (i := 3) sc_shortest_period.nd rfl (.inl rfl)) (C8.pss_cut
      (ps_while PassesOwn.never (PW.pt (pw_and (pt_cmpR op_gt (pv 2) pe_int (nomark _)) (pw_and1 (pt_cmpR op_ne (pe_ix (ix_seqK (K := K) rfl) (pv 0) (pv 3) (fun _ _ => rfl)) (pe_ix (ix_seqK (K := K) rfl) (pv 0) (pv 2) (fun _ _ => rfl)) (nomark _))))) (pss_one
      (ps_set (i := 2) sc_shortest_period.nd rfl (Or.inl rfl) (pe_ix (ix_listK (K := K) rfl) (pv 1) (pe_op op_sub (pv 2) pe_int) (fun _ _ => rfl)))))
      (C8.pss_cut
      (ps_if (pt_cmpR op_eq (pe_ix (ix_seqK (K := K) rfl) (pv 0) (pv 3) (fun _ _ => rfl)) (pe_ix (ix_seqK (K := K) rfl) (pv 0) (pv 2) (fun _ _ => rfl)) (nomark _)) (pss_one
      (ps_aug (i := 2) sc_shortest_period.nd rfl (.inl rfl) pe_int ip_add)) pss_nil)
      (pss_one
      (ps_expr (pe_bm PySem.F.plainAttrs_list PySem.F.slot_list_append PySem.F.type_list_append mt_append (pv 1) (pa_cons (pv 2) pa_nil)))))))
      (pss_cons
      (ps_set (i := 4) sc_shortest_period.nd rfl (Or.inl rfl) (pe_op op_sub (pe_callB (call_lenK (K := K) rfl) (by rfl) T.z_len PySem.boot_len (pa_cons (pv 0) pa_nil)) (pv 2)))
      (pss_one
      (ps_ret (pe_ifExp (pt_cmpR op_eq (pe_op op_mod (pe_callB (call_lenK (K := K) rfl) (by rfl) T.z_len PySem.boot_len (pa_cons (pv 0) pa_nil)) (pv 4)) pe_int (nomark _)) (pv 4) (pe_callB (call_lenK (K := K) rfl) (by rfl) T.z_len PySem.boot_len (pa_cons (pv 0) pa_nil))))))))), ?_⟩
    -- borders = [0]; border = 0
    refine ⟨by show 1 ≤ sizeLine; decide, fun o ho => ?_⟩
    have hl1 : SeqI (upd H o (.lst [.int 0])) a l := hl.same (same_new ho)
    -- for at in range(1, len(loop))
    refine ⟨_, rfl, a, _, rfl, hl1.sq, _, _, rfl, (by rw [List.length_map]; omega), for_range (lo := 1) (n := ((((l.map V.int).length : Nat) : Int) - 1).toNat)
      (fun i σ H' => ∃ (b : Nat) (bs : List Nat) (v : Option V), σ = [some (.ref a), some (.ref o), some (.int (b : Nat)), v, none] ∧ Same H H' ∧ H' o = some (.lst (bs.map fun n => V.int (n : Nat))) ∧ bs.length = i + 1 ∧ i + 1 ≤ l.length ∧
        Wd.Lg (lw l) (i + 1) b ∧ ∀ j x, bs[j]? = some x → Wd.Lg (lw l) (j + 1) x)
      ⟨0, [0], none, rfl, same_new ho, upd_same, rfl, hn, ⟨Wd.Bd.zero (by omega), fun j hj => by have := hj.1; omega⟩, fun j x hx => ?_⟩ ?_ ?_⟩
    · cases j with
      | zero =>
        have : x = 0 := (Option.some.inj hx).symm
        rw [this]
        exact ⟨Wd.Bd.zero (by omega), fun j hj => by have := hj.1; omega⟩
      | succ j => simp at hx
    · rintro i σ H1 hi ⟨b, bs, v, rfl, s1, ho1, hbl, hil, hLg, hall⟩
      rw [List.length_map] at hi
      have hi2 : i + 1 < l.length := by omega
      have hl2 : SeqI H1 a l := hl.same s1
      have e1 : (1 : Int) + (i : Int) = ((i + 1 : Nat) : Int) := by omega
      -- while
      refine ⟨fun σ H2 => ∃ b : Nat, σ = [some (.ref a), some (.ref o), some (.int (b : Nat)), some (.int (1 + (i : Int))), none] ∧ H2 = H1 ∧ Wd.In (lw l) (i + 1) b ∧ (b = 0 ∨ lw l (i + 1) = lw l b), ?_, ?_⟩
      · refine ⟨fun m σ H2 => ∃ b : Nat, m = b ∧ σ = [some (.ref a), some (.ref o), some (.int (b : Nat)), some (.int (1 + (i : Int))), none] ∧ H2 = H1 ∧ Wd.In (lw l) (i + 1) b, ⟨b, b, rfl, rfl, rfl, Wd.In.start hLg⟩, ?_⟩
        rintro b σ H2 ⟨_, rfl, rfl, rfl, hin⟩
        refine ⟨_, rfl, _, _, rfl, rfl, _, rfl, ?_⟩
        refine ite2 (fun e => ?_) (fun e => ?_)
        · have hb0 : 0 < b := by have := of_decide_eq_true e; omega
          have hbl2 : b < i + 1 := hin.1.1
          refine ⟨_, rfl, _, rfl, ixq hl2 e1 (at_map hi2) ⟨_, rfl, _, rfl, ixq hl2 rfl (at_map (by omega)) ?_⟩⟩
          refine ⟨rfl, _, rfl, ?_⟩
          refine ite_ne (fun c => ?_) (fun c => ⟨b, rfl, rfl, hin, .inr c⟩)
          · have c : lw l (i + 1) ≠ lw l b := c
            obtain ⟨x, hx⟩ : ∃ x, bs[b - 1]? = some x := ⟨_, List.getElem?_eq_getElem (by omega)⟩
            have hL2 := hall _ _ hx
            rw [Nat.sub_add_cancel hb0] at hL2
            obtain ⟨hs1, hs2⟩ := hin.step hb0 c hL2
            refine ⟨fun σ' H' => σ' = [some (.ref a), some (.ref o), some (.int (x : Nat)), some (.int (1 + (i : Int))), none] ∧ H' = H2, fun σ' H' hN => ⟨x, hs2, x, rfl, hN.1, hN.2, hs1⟩, ?_⟩
            refine ⟨_, rfl, _, rfl, _, _, rfl, rfl, o, _, _, .int (x : Nat), rfl, rfl, .of ho1, ?_, rfl, rfl⟩
            rw [show ((b : Nat) : Int) - 1 = ((b - 1 : Nat) : Int) by omega]
            exact atI_nat (by rw [List.getElem?_map, hx]; rfl)
        · have : b = 0 := by
            rcases Nat.eq_zero_or_pos b with z | z
            · exact z
            · exact absurd (decide_eq_true (show (0 : Int) < (b : Int) by omega)) e
          exact ⟨b, rfl, rfl, hin, .inl this⟩
      · rintro σ H2 ⟨b, rfl, rfl, hin, hor⟩
        have hbl2 : b < i + 1 := hin.1.1
        -- if loop[at] == loop[border]: border += 1
        refine ⟨fun σ H3 => ∃ b : Nat, σ = [some (.ref a), some (.ref o), some (.int (b : Nat)), some (.int (1 + (i : Int))), none] ∧ H3 = H2 ∧ Wd.Lg (lw l) (i + 1 + 1) b, ?_, ?_⟩
        · refine ⟨_, rfl, _, rfl, ixq hl2 e1 (at_map hi2) ⟨_, rfl, _, rfl, ixq hl2 rfl (at_map (by omega)) ?_⟩⟩
          refine ⟨rfl, _, rfl, ite_eq (fun c => ?_) (fun c => ?_)⟩
          · have c : lw l (i + 1) = lw l b := c
            exact ⟨_, rfl, _, _, rfl, rfl, b + 1, rfl, rfl, hin.found c⟩
          · have c : lw l (i + 1) ≠ lw l b := c
            rcases hor with z | z
            · subst z
              exact ⟨0, rfl, rfl, hin.none c⟩
            · exact absurd z c
        · rintro σ H3 ⟨b, rfl, rfl, hLg2⟩
          -- borders.append(border)
          refine ⟨_, rfl, .inl ⟨rfl, _, .of ho1⟩, _, rfl, o, _, _, rfl, rfl, ho1, ?_, ?_⟩
          · rw [List.length_map]
            exact Nat.lt_of_le_of_lt (show bs.length ≤ 1000000 by omega) (by decide)
          · refine ⟨b, bs ++ [b], _, rfl, fun c u hc => ?_, by rw [upd_same, List.map_append]; rfl, by simp [hbl], by omega, hLg2, fun j x hx => ?_⟩
            · rw [upd_ne (ne_of_none hc ho)]
              exact s1 _ _ hc
            · rcases Nat.lt_or_ge j bs.length with z | z
              · rw [List.getElem?_append_left z] at hx
                exact hall j x hx
              · rw [List.getElem?_append_right z] at hx
                have hj : j - bs.length = 0 := by
                  rcases Nat.eq_zero_or_pos (j - bs.length) with y | y
                  · exact y
                  · rw [List.getElem?_eq_none (by simp; omega)] at hx
                    cases hx
                rw [hj] at hx
                have hxb : x = b := (Option.some.inj hx).symm
                rw [hxb, show j = i + 1 by omega]
                exact hLg2
    · rintro σ H1 ⟨b, bs, v, rfl, s1, ho1, hbl, hil, hLg, hall⟩
      rw [List.length_map] at hbl hil hLg
      have en : (((l.length : Nat) : Int) - 1).toNat + 1 = l.length := by omega
      rw [en] at hLg
      have hb0 : b < l.length := hLg.1.1
      have hl2 : SeqI H1 a l := hl.same s1
      -- size
      refine ⟨_, rfl, a, _, rfl, hl2.sq, _, rfl, _, _, rfl, rfl, ?_⟩
      have es : (((l.map V.int).length : Nat) : Int) - (b : Int) = ((l.length - b : Nat) : Int) := by
        rw [List.length_map]
        omega
      have em : (((l.map V.int).length : Nat) : Int) % ((((l.map V.int).length : Nat) : Int) - (b : Int)) = ((l.length % (l.length - b) : Nat) : Int) := by
        rw [es, List.length_map]
        rfl
      refine ⟨_, rfl, a, _, rfl, hl2.sq, _, rfl, _, _, rfl, rfl, (show (0 : Int) < _ by rw [es]; omega), rfl, _, rfl, ?_⟩
      have L := Wd.least_of hn hLg
      refine ite2 (fun e => ?_) (fun e => ?_)
      · have c : l.length % (l.length - b) = 0 := by
          have := V.int.inj (of_decide_eq_true e)
          rw [em] at this
          omega
        rw [if_pos c] at L
        refine ⟨_, rfl, ?_⟩
        show Q (V.int ((((l.map V.int).length : Nat) : Int) - (b : Int))) H1
        rw [es]
        exact q H1 _ s1 L
      · have c : ¬ l.length % (l.length - b) = 0 := fun z => e (decide_eq_true (congrArg V.int (by rw [em, z]; rfl)))
        rw [if_neg c] at L
        refine ⟨_, rfl, a, _, rfl, hl2.sq, ?_⟩
        show Q (V.int (((l.map V.int).length : Nat) : Int)) H1
        rw [List.length_map]
        exact q H1 _ s1 L
theorem cal_short (T : Txt K mg) : C8.Cal P w K mg base 2 "shortest_lasso" spShort [] := by
  have C_shortest_period : C8.Cal P w K mg base 1 "shortest_period" spPeriod [] := cal_period T
  obtain ⟨f, fd, F, hm, hb⟩ := T.h_shortest_lasso
  refine ⟨f, fd, _, [], F.ok sc_shortest_lasso (fun vs H Q E h => ?_) (fun cdv A outer s H vs Q E hr h => ?_), hm, F.kp, hb, .nil⟩
  · obtain ⟨a, b, h, l, rfl, _⟩ := h
    rfl
  · obtain ⟨a, b, h, l, rfl, ha, hb, hne, hh, hl, q⟩ := h
    have hn : 0 < l.length := List.length_pos_iff.mpr hne
    refine ⟨_, (pss_cons
      (ps_set (i := 2) sc_shortest_lasso.nd rfl (Or.inl rfl) (C8.pe_c C_shortest_period hr (by decide) (by rfl) (pa_cons (pv 1) pa_nil)))
      (pss_cons
      (ps_set (i := 3) sc_shortest_lasso.nd rfl (Or.inl rfl) (pe_callB (call_lenK (K := K) rfl) (by rfl) T.z_len PySem.boot_len (pa_cons (pv 0) pa_nil)))
      (C8.pss_cut
      (ps_while PassesOwn.never (PW.pt (pw_and (pt_cmpR op_gt (pv 3) pe_int (nomark _)) (pw_and1 (pt_cmpR op_eq (pe_ix (ix_seqK (K := K) rfl) (pv 0) (pe_op op_sub (pv 3) pe_int) (fun _ _ => rfl)) (pe_ix (ix_seqK (K := K) rfl) (pv 1) (pe_op op_mod (pe_op op_sub (pe_op op_sub (pv 3) pe_int) (pe_callB (call_lenK (K := K) rfl) (by rfl) T.z_len PySem.boot_len (pa_cons (pv 0) pa_nil))) (pv 2)) (fun _ _ => rfl)) (nomark _))))) (pss_one
      (ps_aug (i := 3) sc_shortest_lasso.nd rfl (.inl rfl) pe_int ip_sub)))
      (pss_cons
      (ps_set (i := 4) sc_shortest_lasso.nd rfl (Or.inl rfl) (pe_op op_mod (pe_op op_sub (pv 3) (pe_callB (call_lenK (K := K) rfl) (by rfl) T.z_len PySem.boot_len (pa_cons (pv 0) pa_nil))) (pv 2)))
      (pss_one
      (ps_ret (pe_tup (pa_cons (pe_callTy (call_tuple_ofK (K := K) rfl) (by rfl) T.z_tuple (by decide +kernel) (pa_cons (pe_slice (sl_seqK (K := K) rfl) (pv 0) po_none (po_some (pv 3))) pa_nil)) (pa_cons (pe_op (op_catK (K := K) rfl) (pe_callTy (call_tuple_ofK (K := K) rfl) (by rfl) T.z_tuple (by decide +kernel) (pa_cons (pe_slice (sl_seqK (K := K) rfl) (pv 1) (po_some (pv 4)) (po_some (pv 2))) pa_nil)) (pe_callTy (call_tuple_ofK (K := K) rfl) (by rfl) T.z_tuple (by decide +kernel) (pa_cons (pe_slice (sl_seqK (K := K) rfl) (pv 1) po_none (po_some (pv 4))) pa_nil))) pa_nil))))))))), ?_⟩
    refine ⟨_, rfl, b, l, rfl, hb, hne, by omega, fun H1 r s1 L => ?_⟩
    have ha1 := ha.same s1
    have hb1 := hb.same s1
    have hr0 := L.pos
    have hrl := least_le hn L
    have hri : (0 : Int) < (r : Int) := by omega
    -- kept = len(head)
    refine ⟨_, rfl, a, _, rfl, ha1.sq, ?_⟩
    -- while
    refine ⟨fun σ H2 => ∃ k : Nat, σ = [some (.ref a), some (.ref b), some (.int (r : Nat)), some (.int (k : Nat)), none] ∧ H2 = H1 ∧ k ≤ h.length ∧ (∀ t, k ≤ t → t < h.length → lw h t = bk l r ((t : Int) - (h.length : Int))) ∧ (k = 0 ∨ lw h (k - 1) ≠ bk l r ((k : Int) - 1 - (h.length : Int))), ?_, ?_⟩
    · refine ⟨fun m σ H2 => ∃ k : Nat, m = k ∧ σ = [some (.ref a), some (.ref b), some (.int (r : Nat)), some (.int (k : Nat)), none] ∧ H2 = H1 ∧ k ≤ h.length ∧ (∀ t, k ≤ t → t < h.length → lw h t = bk l r ((t : Int) - (h.length : Int))),
        ⟨h.length, h.length, rfl, (by rw [List.length_map]; rfl), rfl, Nat.le_refl _, fun t h1 h2 => by omega⟩, ?_⟩
      rintro k σ H2 ⟨_, rfl, rfl, rfl, hk, hB⟩
      refine ⟨_, rfl, _, _, rfl, rfl, _, rfl, ?_⟩
      refine ite_lt (fun e => ?_) (fun e => ⟨k, rfl, rfl, hk, hB, .inl (by omega)⟩)
      have ez : ((k : Int) - 1 - (((h.map V.int).length : Nat) : Int)) % (r : Int) = ((((k : Int) - 1 - (h.length : Int)) % (r : Int)).toNat : Nat) := by
        rw [List.length_map, Int.toNat_of_nonneg (Int.emod_nonneg _ (by omega))]
      refine ⟨_, rfl, _, rfl, _, _, rfl, rfl, ixq (j := k - 1) ha1 (by omega) (at_map (by omega)) ?_⟩
      refine ⟨_, rfl, _, rfl, _, _, rfl, rfl, _, rfl, a, _, rfl, ha1.sq, _, _, rfl, rfl, _, rfl, _, _, rfl, rfl, hri, ixq hb1 ez (at_map (Nat.lt_of_lt_of_le (cut_lt hr0 _) hrl)) ?_⟩
      refine ⟨rfl, _, rfl, ite_eq (fun c => ?_) (fun c => ⟨k, rfl, rfl, hk, hB, .inr c⟩)⟩
      refine ⟨fun σ' H' => σ' = [some (.ref a), some (.ref b), some (.int (r : Nat)), some (.int ((k - 1 : Nat) : Int)), none] ∧ H' = H2, fun σ' H' hN => ⟨k - 1, by omega, k - 1, rfl, hN.1, hN.2, by omega, fun t h1 h2 => ?_⟩, ?_⟩
      · rcases Nat.lt_or_ge t k with z | z
        · have : t = k - 1 := by omega
          subst this
          rw [show ((k - 1 : Nat) : Int) - (h.length : Int) = (k : Int) - 1 - (h.length : Int) by omega]
          exact c
        · exact hB t z h2
      · refine ⟨_, rfl, _, _, rfl, rfl, ?_, rfl⟩
        show [some (V.ref a), some (.ref b), some (.int (r : Nat)), some (.int ((k : Int) - 1)), none] = _
        rw [show (k : Int) - 1 = ((k - 1 : Nat) : Int) by omega]
    · rintro σ H2 ⟨k, rfl, rfl, hk, hB, hX⟩
      -- cut
      refine ⟨_, rfl, _, rfl, a, _, rfl, ha1.sq, _, _, rfl, rfl, _, rfl, _, _, rfl, rfl, hri, ?_⟩
      have ec : ((k : Int) - (((h.map V.int).length : Nat) : Int)) % (r : Int) = ((((k : Int) - (h.length : Int)) % (r : Int)).toNat : Nat) := by
        rw [List.length_map, Int.toNat_of_nonneg (Int.emod_nonneg _ (by omega))]
      have hc := cut_lt hr0 ((k : Int) - (h.length : Int))
      -- tuple(head[:kept])
      refine ⟨_, rfl, _, rfl, k, rfl, ?_⟩
      refine slq_to ha1 rfl fun H3 p3 s3 e3 => ?_
      walk_at "nl"
      refine tupq e3 fun H4 p4 s4 e4 => ?_
      have hb4 := (hb1.same s3).same s4
      refine ⟨_, rfl, _, rfl, _, rfl, _, rfl, _, rfl, ?_⟩
      refine slq_mid hb4 ec rfl (by omega) hrl fun H5 p5 s5 e5 => ?_
      walk_at "nl"
      refine tupq e5 fun H6 p6 s6 e6 => ?_
      have hb6 := (hb4.same s5).same s6
      refine ⟨_, rfl, _, rfl, _, rfl, ?_⟩
      refine slq_to hb6 ec fun H7 p7 s7 e7 => ?_
      walk_at "nl"
      refine tupq e7 fun H8 p8 s8 e8 => ?_
      have S68 := s7.trans s8
      refine catq (S68 _ _ e6) e8 ?_ fun H9 p9 s9 e9 => ?_
      · rw [List.length_take, List.length_drop, List.length_take]
        omega
      refine ⟨by show 2 ≤ sizeLine; decide, fun p hp => ?_⟩
      have s10 : Same H9 (upd H9 p (.tup [.ref p4, .ref p9])) := same_new hp
      refine q _ p (h.take k) (rot l r (((k : Int) - (h.length : Int)) % (r : Int)).toNat) ?_ ⟨p4, p9, upd_same, ?_, s10 _ _ e9⟩ (short_of hne L hk hB hX)
      · exact s1.trans (s3.trans (s4.trans (s5.trans (s6.trans (S68.trans (s9.trans s10))))))
      · exact s10 _ _ (s9 _ _ (S68 _ _ (s6 _ _ (s5 _ _ e4))))
theorem cal_ints (T : Txt K mg) : C8.Cal P w K mg base 2 "_law_integers" spInts [] := by
  have C_law_is_integer : C8.Cal P w K mg base 1 "_law_is_integer" spIsInt [] := cal_isint T
  obtain ⟨f, fd, F, hm, hb⟩ := T.h_law_integers
  refine ⟨f, fd, _, [], F.ok sc_law_integers (fun vs H Q E h => ?_) (fun cdv A outer s H vs Q E hr h => ?_), hm, F.kp, hb, .nil⟩
  · obtain ⟨a, xs, lo, hi, rfl, _⟩ := h
    rfl
  · obtain ⟨a, xs, lo, hi, rfl, ht, hx, q⟩ := h
    refine ⟨_, (pss_cons
      (ps_if (pt_not (pt_val (pe_callB (call_isiK' (K := K) rfl) (by rfl) T.z_isinstance (by decide +kernel) (pa_cons (pv 0) (pa_cons (pe_bltn (v := .ty "tuple") (by rfl) T.z_tuple (by decide +kernel) rfl) pa_nil))))) (pss_one
      (ps_ret pe_bl)) pss_nil)
      (pss_cons
      (ps_for PassesOwn.never rfl (pi_tup (pv 0)) (pg_name (i := 3) sc_law_integers.nd rfl (.inl rfl)) (pss_one
      (ps_if (PW.pt (pw_or (pt_not (pt_val (C8.pe_c C_law_is_integer hr (by decide) (by rfl) (pa_cons (pv 3) pa_nil)))) (pw_or (pt_cmpR op_lt (pv 3) (pv 1) (nomark _)) (pw_or1 (pt_cmpR op_ge (pv 3) (pv 2) (nomark _)))))) (pss_one
      (ps_ret pe_bl)) pss_nil)))
      (pss_one
      (ps_ret pe_bl)))), ?_⟩
    refine ⟨_, rfl, _, _, _, _, true, rfl, .ty "tuple", .base (.tup ht), kit_ty (by decide +kernel), true, rfl, ?_⟩
    refine ⟨_, rfl, a, rfl, ⟨_, .of ht⟩, for_tup (K := K) (a := a) (xs := xs.map V.int) (fun i σ H' => ∃ v : Option V, σ = [some (.ref a), some (.int lo), some (.int hi), v] ∧ H' = H) ⟨none, rfl, rfl⟩ (fun i σ H' _ ⟨_, _, e⟩ => by rw [e]; exact .of ht) ?_ ?_⟩
    · rintro i y σ H' hi ⟨v, rfl, rfl⟩
      obtain ⟨z, hz, rfl⟩ : ∃ z, xs[i]? = some z ∧ y = V.int z := by
        rw [List.getElem?_map] at hi
        cases e : xs[i]? with
        | none => rw [e] at hi; cases hi
        | some z => rw [e] at hi; exact ⟨z, rfl, (Option.some.inj hi).symm⟩
      obtain ⟨c1, c2⟩ := hx z (List.mem_of_getElem? hz)
      refine ⟨_, rfl, z, rfl, true, rfl, ?_⟩
      refine ⟨_, rfl, _, rfl, _, _, rfl, rfl, _, rfl, ite_lt (fun c => absurd c1 (by omega)) (fun _ => ?_)⟩
      refine ⟨_, rfl, _, rfl, _, _, rfl, rfl, _, rfl, ?_⟩
      refine ite2 (fun c => absurd (of_decide_eq_true c) (by omega)) (fun _ => ?_)
      exact ⟨_, rfl, rfl⟩
    · rintro σ H' ⟨v, rfl, rfl⟩
      exact q
theorem cal_normal (T : Txt K mg) : C8.Cal P w K mg base 1 "_law_normal" spNormal [] := by
  obtain ⟨f, fd, F, hm, hb⟩ := T.h_law_normal
  refine ⟨f, fd, _, [], F.ok sc_law_normal (fun vs H Q E h => ?_) (fun cdv A outer s H vs Q E hr h => ?_), hm, F.kp, hb, .nil⟩
  · obtain ⟨p, h, l, rfl, _⟩ := h
    rfl
  · obtain ⟨p, h, l, rfl, ⟨a, b, e1, e2, e3⟩, N, hll, q⟩ := h
    have i0 : ∀ a b : V, atI [a, b] 0 = some a := fun _ _ => rfl
    have i1 : ∀ a b : V, atI [a, b] 1 = some b := fun _ _ => rfl
    have hn := N.pos
    refine ⟨_, (pss_cons
      (ps_set (i := 1) sc_law_normal.nd rfl (Or.inl rfl) (pe_ix (ix_tupK (K := K) rfl) (pv 0) pe_int (fun _ _ => rfl)))
      (pss_cons
      (ps_set (i := 2) sc_law_normal.nd rfl (Or.inl rfl) (pe_ix (ix_tupK (K := K) rfl) (pv 0) pe_int (fun _ _ => rfl)))
      (C8.pss_cut
      (ps_if (PW.pt (pw_and (pt_cmpR op_gt (pe_callB (call_lenK (K := K) rfl) (by rfl) T.z_len PySem.boot_len (pa_cons (pv 1) pa_nil)) pe_int (nomark _)) (pw_and1 (pt_cmpR op_eq (pe_ix (ix_tupK (K := K) rfl) (pv 1) (pe_un un_neg pe_int) (fun _ _ => rfl)) (pe_ix (ix_tupK (K := K) rfl) (pv 2) (pe_un un_neg pe_int) (fun _ _ => rfl)) (nomark _))))) (pss_one
      (ps_ret pe_bl)) pss_nil)
      (pss_cons
      (ps_for PassesOwn.never rfl (pi_range2 (by rfl) T.z_range (pa_cons pe_int (pa_cons (pe_callB (call_lenK (K := K) rfl) (by rfl) T.z_len PySem.boot_len (pa_cons (pv 2) pa_nil)) pa_nil))) (pg_name (i := 3) sc_law_normal.nd rfl (.inl rfl)) (pss_one
      (ps_if (PW.pt (pw_and (pt_cmpR op_eq (pe_op op_mod (pe_callB (call_lenK (K := K) rfl) (by rfl) T.z_len PySem.boot_len (pa_cons (pv 2) pa_nil)) (pv 3)) pe_int (nomark _)) (pw_and1 (pt_cmpR (op_eqDK (K := K) rfl hr.units) (pv 2) (pe_op (op_repTK (K := K) rfl) (pe_slice (sl_tupK (K := K) rfl) (pv 2) po_none (po_some (pv 3))) (pe_op op_fdiv (pe_callB (call_lenK (K := K) rfl) (by rfl) T.z_len PySem.boot_len (pa_cons (pv 2) pa_nil)) (pv 3))) (nomark _))))) (pss_one
      (ps_ret pe_bl)) pss_nil)))
      (pss_one
      (ps_ret pe_bl)))))), ?_⟩
    refine ⟨_, rfl, p, _, _, _, rfl, rfl, .of e1, i0 _ _, ?_⟩
    refine ⟨_, rfl, p, _, _, _, rfl, rfl, .of e1, i1 _ _, ?_⟩
    -- if len(head) > 0 and head[-1] == loop[-1]
    refine ⟨fun σ H' => σ = [some (.ref p), some (.ref a), some (.ref b), none] ∧ H = H', ?_, ?_⟩
    · refine ⟨_, rfl, a, _, rfl, .inr (.of e2), _, _, rfl, rfl, _, rfl, ?_⟩
      refine ite_lt (fun c => ?_) (fun c => ⟨rfl, rfl⟩)
      rw [List.length_map] at c
      have hne : h ≠ [] := List.length_pos_iff.mp (by omega)
      have g1 : atI (h.map V.int) (-1) = some (.int (lw h (h.length - 1))) := at_last hne
      have g2 : atI (l.map V.int) (-1) = some (.int (lw l (l.length - 1))) := at_last N.ne
      refine ⟨_, rfl, _, rfl, a, _, _, _, rfl, rfl, .of e2, g1, _, rfl, _, rfl, b, _, _, _, rfl, rfl, .of e3, g2, rfl, _, rfl, ite_eq (fun c2 => ?_) (fun _ => ⟨rfl, rfl⟩)⟩
      refine absurd ?_ (N.last hne)
      rw [last_at hne, last_at N.ne, c2]
    · rintro σ H' ⟨rfl, rfl⟩
      refine ⟨_, rfl, b, _, rfl, .inr (.of e3), _, _, rfl, (by rw [List.length_map]; omega), for_range (lo := 1) (n := ((((l.map V.int).length : Nat) : Int) - 1).toNat)
        (fun i σ H' => ∃ v : Option V, σ = [some (.ref p), some (.ref a), some (.ref b), v] ∧ Same H H') ⟨none, rfl, Same.refl H⟩ ?_ ?_⟩
      · rintro i σ H1 hi ⟨v, rfl, s1⟩
        rw [List.length_map] at hi
        have hp : 0 < 1 + i := by omega
        have hpl : 1 + i < l.length := by omega
        have ei : (1 : Int) + (i : Int) = ((1 + i : Nat) : Int) := by omega
        have t3 : TupI H1 b l := s1 _ _ e3
        refine ⟨_, rfl, b, _, rfl, .inr (.of t3), _, rfl, _, _, rfl, rfl, (show (0 : Int) < 1 + (i : Int) by omega), rfl, _, rfl, ?_⟩
        have em : (((l.map V.int).length : Nat) : Int) % ((1 : Int) + (i : Int)) = ((l.length % (1 + i) : Nat) : Int) := by
          rw [ei, List.length_map]
          rfl
        refine ite_eq (fun c => ?_) (fun c => ⟨_, rfl, s1⟩)
        rw [em] at c
        have hd : (1 + i) ∣ l.length := Nat.dvd_of_mod_eq_zero (by omega)
        obtain ⟨k, hk⟩ := hd
        have hk2 : 2 ≤ k := by
          rcases Nat.lt_or_ge k 2 with z | z
          · have : k = 0 ∨ k = 1 := by omega
            rcases this with y | y
            · rw [y] at hk; omega
            · rw [y] at hk; omega
          · exact z
        have hkl : k ≤ l.length := by
          rw [hk]
          exact Nat.le_mul_of_pos_left k hp
        have ek : (((l.map V.int).length : Nat) : Int) / ((1 : Int) + (i : Int)) = (k : Int) := by
          rw [ei, List.length_map, hk, Int.natCast_mul]
          exact Int.mul_ediv_cancel_left _ (by omega)
        -- loop == loop[:period] * (len(loop) // period)
        refine ⟨_, rfl, _, rfl, _, rfl, _, rfl, ?_⟩
        refine slt_to t3 ei fun H2 p2 s2 t4 => ?_
        have t32 : TupI H2 b l := s2 _ _ t3
        refine ⟨_, rfl, b, _, rfl, .inr (.of t32), _, rfl, _, _, rfl, rfl, ⟨(show (0 : Int) < 1 + (i : Int) by omega), (show 1 + (i : Int) < 1073741824 by omega)⟩, ?_⟩
        refine ⟨p2, k, (l.take (1 + i)).map V.int, rfl, congrArg V.int ek, .of t4, fun z => ?_, by omega, by omega, by rw [List.length_map, List.length_take]; omega, fun p3 hp3 => ?_⟩
        · have := congrArg List.length z
          rw [List.length_map, List.length_take] at this
          have h0 : min (1 + i) l.length = 0 := this
          omega
        have s3 : Same H2 (upd H2 p3 (.tup (List.replicate ((k : Int)).toNat ((l.take (1 + i)).map V.int)).flatten)) := same_new hp3
        have ef : (List.replicate ((k : Int)).toNat ((l.take (1 + i)).map V.int)).flatten = ((List.replicate k (l.take (1 + i))).flatten).map V.int := by
          rw [List.map_flatten, List.map_replicate]
          rfl
        have t5 : TupI (upd H2 p3 (.tup (List.replicate ((k : Int)).toNat ((l.take (1 + i)).map V.int)).flatten)) p3 (List.replicate k (l.take (1 + i))).flatten := by
          unfold TupI
          rw [upd_same, ef]
        have t33 : TupI (upd H2 p3 (.tup (List.replicate ((k : Int)).toNat ((l.take (1 + i)).map V.int)).flatten)) b l := s3 _ _ t32
        refine ⟨_, _, dp_tup t33, dp_tup t5, shaped_tup _, shaped_tup _, ?_⟩
        rw [eqv_tup]
        refine ⟨_, rfl, ?_⟩
        refine ite2 (fun c => ?_) (fun _ => ⟨_, rfl, s1.trans (s2.trans s3)⟩)
        exfalso
        obtain ⟨j, hj, hne⟩ := N.prim (1 + i) hp hpl ⟨k, hk⟩
        exact hne (flat_per hp (by omega) (of_decide_eq_true c) (by rw [hk, Nat.mul_comm]) j hj)
      · rintro σ H1 ⟨v, rfl, s1⟩
        exact q H1 s1
theorem cal_islasso (T : Txt K mg) : C8.Cal P w K mg base 3 "_law_is_lasso" spIsLasso [] := by
  have C_law_integers : C8.Cal P w K mg base 2 "_law_integers" spInts [] := cal_ints T
  have C_law_normal : C8.Cal P w K mg base 1 "_law_normal" spNormal [] := cal_normal T
  obtain ⟨f, fd, F, hm, hb⟩ := T.h_law_is_lasso
  refine ⟨f, fd, _, [], F.ok sc_law_is_lasso (fun vs H Q E h => ?_) (fun cdv A outer s H vs Q E hr h => ?_), hm, F.kp, hb, .nil⟩
  · obtain ⟨p, h, l, n, rfl, _⟩ := h
    rfl
  · obtain ⟨p, h, l, n, rfl, L, N, hll, hh, hl, q⟩ := h
    obtain ⟨a, b, e1, e2, e3⟩ := id L
    have i0 : ∀ a b : V, atI [a, b] 0 = some a := fun _ _ => rfl
    have i1 : ∀ a b : V, atI [a, b] 1 = some b := fun _ _ => rfl
    have hn := N.pos
    refine ⟨_, (pss_cons
      (ps_if (PW.pt (pw_or (pt_not (pt_val (pe_callB (call_isiK' (K := K) rfl) (by rfl) T.z_isinstance (by decide +kernel) (pa_cons (pv 0) (pa_cons (pe_bltn (v := .ty "tuple") (by rfl) T.z_tuple (by decide +kernel) rfl) pa_nil))))) (pw_or1 (pt_cmpR op_ne (pe_callB (call_lenK (K := K) rfl) (by rfl) T.z_len PySem.boot_len (pa_cons (pv 0) pa_nil)) pe_int (nomark _))))) (pss_one
      (ps_ret pe_bl)) pss_nil)
      (pss_cons
      (ps_if (PW.pt (pw_or (pt_not (pt_val (C8.pe_c C_law_integers hr (by decide) (by rfl) (pa_cons (pe_ix (ix_tupK (K := K) rfl) (pv 0) pe_int (fun _ _ => rfl)) (pa_cons pe_int (pa_cons (pv 1) pa_nil)))))) (pw_or1 (pt_not (pt_val (C8.pe_c C_law_integers hr (by decide) (by rfl) (pa_cons (pe_ix (ix_tupK (K := K) rfl) (pv 0) pe_int (fun _ _ => rfl)) (pa_cons pe_int (pa_cons (pv 1) pa_nil))))))))) (pss_one
      (ps_ret pe_bl)) pss_nil)
      (pss_one
      (ps_ret (pe_and (pe_cmpR op_gt (pe_callB (call_lenK (K := K) rfl) (by rfl) T.z_len PySem.boot_len (pa_cons (pe_ix (ix_tupK (K := K) rfl) (pv 0) pe_int (fun _ _ => rfl)) pa_nil)) pe_int (nomark _)) (pe_one (C8.pe_c C_law_normal hr (by decide) (by rfl) (pa_cons (pv 0) pa_nil)))))))), ?_⟩
    refine ⟨_, rfl, _, _, _, _, true, rfl, .ty "tuple", .base (.tup e1), kit_ty (by decide +kernel), true, rfl, ?_⟩
    refine ⟨_, rfl, p, _, rfl, .inr (.of e1), rfl, _, rfl, ?_⟩
    refine ⟨_, rfl, p, _, _, _, rfl, rfl, .of e1, i0 _ _, _, rfl, a, h, 0, n, rfl, e2, hh, true, rfl, ?_⟩
    refine ⟨_, rfl, p, _, _, _, rfl, rfl, .of e1, i1 _ _, _, rfl, b, l, 0, n, rfl, e3, hl, true, rfl, ?_⟩
    refine ⟨_, rfl, p, _, _, _, rfl, rfl, .of e1, i1 _ _, b, _, rfl, .inr (.of e3), _, _, rfl, rfl, _, rfl, ?_⟩
    refine ite_lt (fun _ => ?_) (fun c => ?_)
    · exact ⟨_, rfl, p, h, l, rfl, L, N, hll, q⟩
    · rw [List.length_map] at c
      omega
theorem cal_lasso (T : Txt K mg) : C8.Cal P w K mg base 2 "_law_lasso" spLasso [] := by
  have C_law_take : C8.Cal P w K mg base 1 "_law_take" spTake [] := cal_take T
  obtain ⟨f, fd, F, hm, hb⟩ := T.h_law_lasso
  refine ⟨f, fd, _, [], F.ok sc_law_lasso (fun vs H Q E h => ?_) (fun cdv A outer s H vs Q E hr h => ?_), hm, F.kp, hb, .nil⟩
  · obtain ⟨d, n, m, rfl, _⟩ := h
    rfl
  · obtain ⟨d, n, m, rfl, hd, hn, hm0, hm1, q⟩ := h
    refine ⟨_, (pss_cons
      (ps_setLc (i := 3) (own := [("k", 5)]) (g := gName 5) (tt := tYes) rfl sc_law_lasso.nd rfl rfl (sw_true rfl rfl rfl (by decide +kernel)) (pi_range1 (by rfl) T.z_range (pa_cons (C8.pe_c C_law_take hr (by decide) (by rfl) (pa_cons (pv 0) (pa_cons (pe_op op_add (pv 2) pe_int) pa_nil))) pa_nil)) (blkOk_by (N := N_law_lasso) (sc := defScope s_law_lasso) (by decide +kernel)) (fun _ _ _ _ _ => pg_name (i := 5) sc_law_lasso.nd rfl (Or.inl rfl)) (fun _ _ _ _ _ => pts_nil) (fun _ _ _ _ _ => (C8.pe_c C_law_take hr (by decide) (by rfl) (pa_cons (pv 0) (pa_cons (pv 1) pa_nil)))))
      (pss_cons
      (ps_setLc (i := 4) (own := [("k", 5)]) (g := gName 5) (tt := tYes) rfl sc_law_lasso.nd rfl rfl (sw_true rfl rfl rfl (by decide +kernel)) (pi_range1 (by rfl) T.z_range (pa_cons (pe_op op_add pe_int (C8.pe_c C_law_take hr (by decide) (by rfl) (pa_cons (pv 0) (pa_cons (pv 2) pa_nil)))) pa_nil)) (blkOk_by (N := N_law_lasso) (sc := defScope s_law_lasso) (by decide +kernel)) (fun _ _ _ _ _ => pg_name (i := 5) sc_law_lasso.nd rfl (Or.inl rfl)) (fun _ _ _ _ _ => pts_nil) (fun _ _ _ _ _ => (C8.pe_c C_law_take hr (by decide) (by rfl) (pa_cons (pv 0) (pa_cons (pv 1) pa_nil)))))
      (pss_one
      (ps_ret (pe_tup (pa_cons (pe_callTy (call_tuple_ofK (K := K) rfl) (by rfl) T.z_tuple (by decide +kernel) (pa_cons (pv 3) pa_nil)) (pa_cons (pe_callTy (call_tuple_ofK (K := K) rfl) (by rfl) T.z_tuple (by decide +kernel) (pa_cons (pv 4) pa_nil)) pa_nil))))))), ?_⟩
    -- head
    refine ⟨_, rfl, _, rfl, _, _, rfl, rfl, d, _, rfl, hd, by omega, fun r ds r0 r1 => ?_⟩
    refine ⟨_, rfl, by omega, by omega, fun D hD => ?_⟩
    have nDd : D ≠ d := fun z => by rw [z, upd_same] at hD; cases hD
    refine lc_range (lo := 0) (n := r.toNat) (fun i H' => ∃ xs : List Int, Kp d H H' ∧ Drw H' d ∧ H' D = some (.lst (xs.map V.int)) ∧ xs.length = i ∧ ∀ x ∈ xs, 0 ≤ x ∧ x < n)
      ⟨[], Kp.own.trans (Kp.new hD), Drw.own.new hD, upd_same, rfl, by simp⟩ ?_ ?_
    · rintro i H1 hi ⟨xs, k1, d1, e1, el, hx⟩
      refine ⟨rfl, _, rfl, _, rfl, d, _, rfl, d1, hn, fun u us u0 u1 => ?_⟩
      refine ⟨xs.map V.int, by rw [upd_ne nDd]; exact e1, lenI (by omega), xs ++ [u], ?_, ?_, ?_, ?_, ?_⟩
      · intro b o nb hb
        have nbD : b ≠ D := fun z => by
          have h0 : (upd H d (.lst (ds.map V.int))) D = none := hD
          rw [upd_ne nDd] at h0
          rw [z, h0] at hb
          cases hb
        rw [upd_ne nbD, upd_ne nb]
        exact k1 _ _ nb hb
      · exact ⟨us, by rw [upd_ne nDd.symm, upd_same]⟩
      · rw [upd_same, List.map_append]
        rfl
      · simp [el]
      · intro x hx2
        rcases List.mem_append.mp hx2 with z | z
        · exact hx x z
        · rw [List.mem_singleton.mp z]
          exact ⟨u0, u1⟩
    · rintro H1 ⟨xs, k1, d1, e1, el, hx⟩
      have hD0 : H D = none := by
        have h0 : (upd H d (.lst (ds.map V.int))) D = none := hD
        rw [upd_ne nDd] at h0
        exact h0
      -- loop
      refine ⟨_, rfl, _, rfl, d, _, rfl, d1, by omega, fun r2 ds2 r20 r21 => ?_⟩
      refine ⟨_, _, rfl, rfl, _, rfl, by omega, by omega, fun D2 hD2 => ?_⟩
      have nD2d : D2 ≠ d := fun z => by rw [z, upd_same] at hD2; cases hD2
      have hD2' : H1 D2 = none := by rw [upd_ne nD2d] at hD2; exact hD2
      have nDD : D ≠ D2 := ne_of_none e1 hD2'
      have hD20 : H D2 = none := by
        cases e : H D2 with
        | none => rfl
        | some o => rw [k1 _ _ nD2d e] at hD2'; cases hD2'
      refine lc_range (lo := 0) (n := (1 + r2).toNat) (fun i H' => ∃ ys : List Int, Kp d H H' ∧ Drw H' d ∧ H' D = some (.lst (xs.map V.int)) ∧ H' D2 = some (.lst (ys.map V.int)) ∧ ys.length = i ∧ ∀ x ∈ ys, 0 ≤ x ∧ x < n)
        ⟨[], k1.trans (Kp.own.trans (Kp.new hD2)), Drw.own.new hD2, by rw [upd_ne nDD, upd_ne nDd]; exact e1, upd_same, rfl, by simp⟩ ?_ ?_
      · rintro i H2 hi ⟨ys, k2, d2, e2, e3, el2, hy⟩
        refine ⟨rfl, _, rfl, _, rfl, d, _, rfl, d2, hn, fun u us u0 u1 => ?_⟩
        refine ⟨ys.map V.int, by rw [upd_ne nD2d]; exact e3, lenI (by omega), ys ++ [u], ?_, ?_, ?_, ?_, ?_, ?_⟩
        · intro b o nb hb
          rw [upd_ne (fun z => by rw [z, hD20] at hb; cases hb), upd_ne nb]
          exact k2 _ _ nb hb
        · exact ⟨us, by rw [upd_ne nD2d.symm, upd_same]⟩
        · rw [upd_ne nDD, upd_ne nDd]
          exact e2
        · rw [upd_same, List.map_append]
          rfl
        · simp [el2]
        · intro x hx2
          rcases List.mem_append.mp hx2 with z | z
          · exact hy x z
          · rw [List.mem_singleton.mp z]
            exact ⟨u0, u1⟩
      · rintro H2 ⟨ys, k2, d2, e2, e3, el2, hy⟩
        -- return (tuple(head), tuple(loop))
        refine ⟨_, rfl, D, _, rfl, .inl ⟨.of e2, fun a ha => ?_⟩⟩
        have e3' : (upd H2 a (.tup (xs.map V.int))) D2 = some (.lst (ys.map V.int)) := same_new ha _ _ e3
        refine ⟨_, rfl, D2, _, rfl, .inl ⟨.of e3', fun b hb => ?_⟩⟩
        refine ⟨by show 2 ≤ sizeLine; decide, fun p hp => ?_⟩
        have nab : a ≠ b := fun z => by rw [← z, upd_same] at hb; cases hb
        have nap : a ≠ p := fun z => by rw [← z, upd_ne nab, upd_same] at hp; cases hp
        have nbp : b ≠ p := fun z => by rw [← z, upd_same] at hp; cases hp
        refine q _ p xs ys (k2.trans ((Kp.new ha).trans ((Kp.new hb).trans (Kp.new hp)))) (((d2.new ha).new hb).new hp) ⟨a, b, upd_same, by rw [upd_ne nap, upd_ne nab, upd_same], by rw [upd_ne nbp, upd_same]⟩ (by omega) (fun z => ?_) (by omega) hx hy
        rw [z] at el2
        have : (0 : Nat) = (1 + r2).toNat := el2
        omega
theorem cal_same (T : Txt K mg) : C8.Cal P w K mg base 2 "_law_same" spSame [] := by
  have C_law_at : C8.Cal P w K mg base 1 "_law_at" spAt [] := cal_at T
  obtain ⟨f, fd, F, hm, hb⟩ := T.h_law_same
  refine ⟨f, fd, _, [], F.ok sc_law_same (fun vs H Q E h => ?_) (fun cdv A outer s H vs Q E hr h => ?_), hm, F.kp, hb, .nil⟩
  · obtain ⟨p, q, h1, l1, h2, l2, rfl, _⟩ := h
    rfl
  · obtain ⟨p, q, h1, l1, h2, l2, rfl, L1, L2, n1, n2, hbd, hw, k⟩ := h
    obtain ⟨a, b, e1, e2, e3⟩ := id L1
    obtain ⟨a', b', e1', e2', e3'⟩ := id L2
    have i0 : ∀ a b : V, atI [a, b] 0 = some a := fun _ _ => rfl
    have i1 : ∀ a b : V, atI [a, b] 1 = some b := fun _ _ => rfl
    refine ⟨_, (pss_cons
      (ps_set (i := 2) sc_law_same.nd rfl (Or.inl rfl) (pe_op op_add (pe_op op_add (pe_callB (call_max2 rfl) (by rfl) T.z_max (by decide +kernel) (pa_cons (pe_callB (call_lenK (K := K) rfl) (by rfl) T.z_len PySem.boot_len (pa_cons (pe_ix (ix_tupK (K := K) rfl) (pv 0) pe_int (fun _ _ => rfl)) pa_nil)) (pa_cons (pe_callB (call_lenK (K := K) rfl) (by rfl) T.z_len PySem.boot_len (pa_cons (pe_ix (ix_tupK (K := K) rfl) (pv 1) pe_int (fun _ _ => rfl)) pa_nil)) pa_nil))) (pe_callB (call_lenK (K := K) rfl) (by rfl) T.z_len PySem.boot_len (pa_cons (pe_ix (ix_tupK (K := K) rfl) (pv 0) pe_int (fun _ _ => rfl)) pa_nil))) (pe_callB (call_lenK (K := K) rfl) (by rfl) T.z_len PySem.boot_len (pa_cons (pe_ix (ix_tupK (K := K) rfl) (pv 1) pe_int (fun _ _ => rfl)) pa_nil))))
      (pss_cons
      (ps_for PassesOwn.never rfl (pi_range1 (by rfl) T.z_range (pa_cons (pv 2) pa_nil)) (pg_name (i := 3) sc_law_same.nd rfl (.inl rfl)) (pss_one
      (ps_if (pt_cmpR op_ne (C8.pe_c C_law_at hr (by decide) (by rfl) (pa_cons (pv 0) (pa_cons (pv 3) pa_nil))) (C8.pe_c C_law_at hr (by decide) (by rfl) (pa_cons (pv 1) (pa_cons (pv 3) pa_nil))) (nomark _)) (pss_one
      (ps_ret pe_bl)) pss_nil)))
      (pss_one
      (ps_ret pe_bl)))), ?_⟩
    refine ⟨_, rfl, p, _, _, _, rfl, rfl, .of e1, i0 _ _, a, _, rfl, e2.sq, ?_⟩
    refine ⟨_, rfl, q, _, _, _, rfl, rfl, .of e1', i0 _ _, a', _, rfl, e2'.sq, ?_⟩
    refine ⟨_, _, rfl, ?_⟩
    refine ⟨_, rfl, p, _, _, _, rfl, rfl, .of e1, i1 _ _, b, _, rfl, e3.sq, ?_⟩
    refine ⟨_, _, rfl, rfl, ?_⟩
    refine ⟨_, rfl, q, _, _, _, rfl, rfl, .of e1', i1 _ _, b', _, rfl, e3'.sq, ?_⟩
    refine ⟨_, _, rfl, rfl, ?_⟩
    dsimp only
    rw [List.length_map, List.length_map, List.length_map, List.length_map, max_if, ← Int.natCast_add, ← Int.natCast_add]
    show tSeq _ _ _ [some (V.ref p), some (V.ref q), some (V.int ((dfn h1 l1 h2 l2 : Nat) : Int)), none] H
    generalize hd : dfn h1 l1 h2 l2 = n at *
    refine ⟨_, rfl, _, rfl, by omega, by omega, for_range (lo := 0) (n := ((n : Int)).toNat) (fun i σ H3 => ∃ v : Option V, σ = [some (.ref p), some (.ref q), some (.int (n : Int)), v] ∧ H = H3)
      ⟨none, rfl, rfl⟩ ?_ ?_⟩
    · rintro i σ H3 hi ⟨v, rfl, rfl⟩
      refine ⟨_, rfl, _, rfl, p, h1, l1, i, by rw [Int.zero_add]; rfl, L1, n1, ?_⟩
      refine ⟨_, rfl, _, rfl, q, h2, l2, i, by rw [Int.zero_add]; rfl, L2, n2, ?_⟩
      exact ⟨rfl, _, rfl, ite_ne (fun z => absurd (hw i) z) (fun _ => ⟨_, rfl, rfl⟩)⟩
    · rintro σ H3 ⟨v, rfl, rfl⟩
      exact k
theorem cal_checkX {cL : Addr} (T : Txt K mg) (eL : ErrC K mg "InvalidLetter" cL) : CalX P w K mg base 1 "check_letters" (spCheckX cL) := by
  obtain ⟨f, fd, F, hm, hb⟩ := T.h_check_letters
  refine ⟨f, fd, _, F.okX sc_check_letters (fun vs H Q E h => ?_) (fun cdv A outer s H vs Q E hr h => ?_), hm, F.kp, hb⟩
  · obtain ⟨p, h, l, n, rfl, _⟩ := h
    rfl
  · obtain ⟨p, h, l, n, rfl, ⟨a, b, e1, e2, e3⟩, hne, hh, hl, q1, q2⟩ := h
    have t2 : TupI H a h := e2
    have t3 : TupI H b l := e3
    refine ⟨_, (pss_cons
      (ps_asg (pv 0) (pg_tup (by rfl) (pgs_cons (pg_name (i := 2) sc_check_letters.nd rfl (.inl rfl)) (pgs_cons (pg_name (i := 3) sc_check_letters.nd rfl (.inl rfl)) pgs_nil))))
      (pss_one
      (ps_if (pt_cmpR op_ge (pe_callB (call_maxT (K := K) rfl rfl) (by rfl) T.z_max (by decide +kernel) (pa_cons (pe_op (op_catK (K := K) rfl) (pv 2) (pv 3)) pa_nil)) (pv 1) (nomark _)) (pss_one
      (ps_raise rfl (takes_of rfl rfl rfl rfl) (eL.made rfl))) pss_nil))), ?_⟩
    refine ⟨_, rfl, p, _, rfl, .of e1, rfl, _, _, rfl, _, _, rfl, rfl, ?_⟩
    refine ⟨_, rfl, _, rfl, ?_⟩
    refine catq t2 t3 (by omega) fun H1 p1 s1 e4 => ?_
    refine ⟨p1, h ++ l, rfl, .of e4, fun z => hne (List.append_eq_nil_iff.mp z).2, fun m hm hmax => ⟨_, rfl, _, _, rfl, rfl, _, rfl, ?_⟩⟩
    refine ite2 (fun c => ?_) (fun c => ?_)
    · exact q1 ⟨m, List.mem_append.mp hm, of_decide_eq_true c⟩ H1 s1
    · refine q2 (fun x hx => ?_) H1 s1
      have x1 := hmax x (List.mem_append.mpr hx)
      have x2 : ¬ (n : Int) ≤ m := fun z => c (decide_eq_true z)
      omega
theorem cal_relX {cL : Addr} (T : Txt K mg) (eL : ErrC K mg "InvalidLetter" cL) : CalX P w K mg base 3 "relabel" (spRelX cL) := by
  have X_check_letters : CalX P w K mg base 1 "check_letters" (spCheckX cL) := cal_checkX T eL
  have C_shortest_lasso : C8.Cal P w K mg base 2 "shortest_lasso" spShort [] := cal_short T
  obtain ⟨f, fd, F, hm, hb⟩ := T.h_relabel
  refine ⟨f, fd, _, F.okX sc_relabel (fun vs H Q E h => ?_) (fun cdv A outer s H vs Q E hr h => ?_), hm, F.kp, hb⟩
  · obtain ⟨p, q, h, l, tb, rfl, _⟩ := h
    rfl
  · obtain ⟨p, qa, h, l, tb, rfl, L, eq, hne, hh, hl, hnn, q1, q2⟩ := h
    refine ⟨_, (pss_cons
      (ps_expr (pe_cx X_check_letters hr (by decide) (takes_of rfl rfl rfl rfl) (by rfl) (pa_cons (pv 0) (pa_cons (pe_callB (call_lenK (K := K) rfl) (by rfl) T.z_len PySem.boot_len (pa_cons (pv 1) pa_nil)) pa_nil))))
      (pss_cons
      (ps_asg (pv 0) (pg_tup (by rfl) (pgs_cons (pg_name (i := 2) sc_relabel.nd rfl (.inl rfl)) (pgs_cons (pg_name (i := 3) sc_relabel.nd rfl (.inl rfl)) pgs_nil))))
      (pss_one
      (ps_ret (C8.pe_c C_shortest_lasso hr (by decide) (by rfl) (pa_cons (pe_lc (own := [("letter", 4)]) (g := gName 4) (tt := tYes) rfl sc_relabel.nd (pi_tup (pv 2)) (blkOk_by (N := N_relabel) (sc := defScope s_relabel) (by decide +kernel)) (fun _ _ _ _ _ => pg_name (i := 4) sc_relabel.nd rfl (Or.inl rfl)) (fun _ _ _ _ _ => pts_nil) (fun _ _ _ _ _ => (pe_ix (ix_listK (K := K) rfl) (pv 1) (pv 4) (fun _ _ => rfl)))) (pa_cons (pe_lc (own := [("letter", 4)]) (g := gName 4) (tt := tYes) rfl sc_relabel.nd (pi_tup (pv 3)) (blkOk_by (N := N_relabel) (sc := defScope s_relabel) (by decide +kernel)) (fun _ _ _ _ _ => pg_name (i := 4) sc_relabel.nd rfl (Or.inl rfl)) (fun _ _ _ _ _ => pts_nil) (fun _ _ _ _ _ => (pe_ix (ix_listK (K := K) rfl) (pv 1) (pv 4) (fun _ _ => rfl)))) pa_nil))))))), ?_⟩
    refine ⟨_, rfl, _, rfl, qa, _, rfl, .inl (.of eq), p, h, l, tb.length, by rw [List.length_map], L, hne, hh, hl, fun z H' s' => q1 z H' s', fun hx H1 s1 => ?_⟩
    obtain ⟨a, b, e1, e2, e3⟩ := L.same s1
    have eq1 := s1 _ _ eq
    refine ⟨_, rfl, p, _, rfl, .of e1, rfl, _, _, rfl, _, _, rfl, rfl, ?_⟩
    -- [table[letter] for letter in head]
    refine ⟨_, rfl, a, rfl, ⟨_, .of e2⟩, fun D hD => ?_⟩
    have step : ∀ (xs : List Int) (i : Nat) (x : Int), (∀ x ∈ xs, 0 ≤ x ∧ x < (tb.length : Int)) → xs[i]? = some x → (tb.map V.int)[x.toNat]? = some (.int (tab tb x)) ∧ x = ((x.toNat : Nat) : Int) ∧ ((xs.take i).map (tab tb)).map V.int ++ [V.int (tab tb x)] = ((xs.take (i + 1)).map (tab tb)).map V.int := fun xs i x hb hi => by
      obtain ⟨c1, c2⟩ := hb x (List.mem_of_getElem? hi)
      refine ⟨at_map (by omega), by omega, ?_⟩
      rw [List.take_add_one, hi, List.map_append, List.map_append]
      rfl
    refine lc_tup (K := K) (a := a) (xs := h.map V.int) (fun i H' => Same H1 H' ∧ H' D = some (.lst (((h.take i).map (tab tb)).map V.int)))
      ⟨same_new hD, upd_same⟩ (fun i H' _ ⟨z, _⟩ => .of (z _ _ e2)) ?_ ?_
    · rintro i y H2 hi ⟨s2, eD⟩
      obtain ⟨x, hx2, rfl⟩ : ∃ x, h[i]? = some x ∧ y = V.int x := by
        rw [List.getElem?_map] at hi
        cases e : h[i]? with
        | none => rw [e] at hi; cases hi
        | some z => rw [e] at hi; exact ⟨z, rfl, (Option.some.inj hi).symm⟩
      obtain ⟨g1, g2, g3⟩ := step h i x (fun x hm => ⟨hnn x (.inl hm), hx x (.inl hm)⟩) hx2
      refine ⟨rfl, _, rfl, _, rfl, qa, _, _, .int (tab tb x), rfl, rfl, .of (s2 _ _ eq1), by rw [g2]; exact atI_nat g1, _, eD, lenI (by rw [List.length_map, List.length_take]; omega), fun c o hc => ?_, by rw [upd_same, g3]⟩
      rw [upd_ne (ne_of_none hc hD)]
      exact s2 _ _ hc
    · rintro H2 ⟨s2, eD⟩
      rw [List.length_map, List.take_length] at eD
      have e32 := s2 _ _ e3
      refine ⟨_, rfl, b, rfl, ⟨_, .of e32⟩, fun D2 hD2 => ?_⟩
      refine lc_tup (K := K) (a := b) (xs := l.map V.int) (fun i H' => Same H2 H' ∧ H' D2 = some (.lst (((l.take i).map (tab tb)).map V.int)))
        ⟨same_new hD2, upd_same⟩ (fun i H' _ ⟨z, _⟩ => .of (z _ _ e32)) ?_ ?_
      · rintro i y H3 hi ⟨s3, eD2⟩
        obtain ⟨x, hx2, rfl⟩ : ∃ x, l[i]? = some x ∧ y = V.int x := by
          rw [List.getElem?_map] at hi
          cases e : l[i]? with
          | none => rw [e] at hi; cases hi
          | some z => rw [e] at hi; exact ⟨z, rfl, (Option.some.inj hi).symm⟩
        obtain ⟨g1, g2, g3⟩ := step l i x (fun x hm => ⟨hnn x (.inr hm), hx x (.inr hm)⟩) hx2
        refine ⟨rfl, _, rfl, _, rfl, qa, _, _, .int (tab tb x), rfl, rfl, .of (s3 _ _ (s2 _ _ eq1)), by rw [g2]; exact atI_nat g1, _, eD2, lenI (by rw [List.length_map, List.length_take]; omega), fun c o hc => ?_, by rw [upd_same, g3]⟩
        rw [upd_ne (ne_of_none hc hD2)]
        exact s3 _ _ hc
      · rintro H3 ⟨s3, eD2⟩
        rw [List.length_map, List.take_length] at eD2
        exact ⟨D, D2, h.map (tab tb), l.map (tab tb), rfl, .inl (s3 _ _ eD), .inl eD2, fun z => hne (List.map_eq_nil_iff.mp z), by rw [List.length_map]; omega, by rw [List.length_map]; omega, fun H4 p4 h' l' s4 L4 S4 =>
          q2 hx H4 p4 h' l' (s1.trans (s2.trans (s3.trans s4))) L4 S4⟩
theorem cal_relout {cL : Addr} (T : Txt K mg) (eL : ErrC K mg "InvalidLetter" cL) : C8.Cal P w K mg base 4 "_law_outcome" spRelOut [] := by
  have X_relabel : CalX P w K mg base 3 "relabel" (spRelX cL) := cal_relX T eL
  obtain ⟨f, fd, F, hm, hb⟩ := T.h_law_outcome
  refine ⟨f, fd, _, [], F.ok sc_law_outcome (fun vs H Q E h => ?_) (fun cdv A outer s H vs Q E hr h => ?_), hm, F.kp, hb, .nil⟩
  · obtain ⟨p, q, h, l, tb, rfl, _⟩ := h
    rfl
  · obtain ⟨p, qa, h, l, tb, rfl, L, eq, hne, hh, hl, hnn, q1⟩ := h
    refine ⟨_, (pss_one
      (ps_try_only rfl rfl ⟨rfl, by decide, .inl eL.g⟩ takes0 (fun W pn xe tk _ => (pss_one (ps_ret (pe_cx X_relabel hr (by decide) tk (by rfl) (pa_cons (pv 0) (pa_cons (pv 1) pa_nil)))))) (fun a oe cls d pn hz hf => (pss_one
      (ps_ret pe_non))))), ?_⟩
    exact ⟨_, rfl, _, rfl, p, qa, h, l, tb, rfl, L, eq, hne, hh, hl, hnn, fun z H' s' => ⟨true, eL.me, fun _ a ha => q1 .non H' s' (.inl ⟨z, rfl⟩), fun y => by cases y⟩, fun z H' p' h' l' s' L S => q1 _ H' s' (.inr ⟨z, p', h', l', rfl, L, S⟩)⟩
theorem cal_combine (T : Txt K mg) (gM : mg "lcm" = some (.builtin "math.lcm")) : C8.Cal P w K mg base 3 "combine" spComb [] := by
  have C_shortest_lasso : C8.Cal P w K mg base 2 "shortest_lasso" spShort [] := cal_short T
  have C_letter_at : C8.Cal P w K mg base 1 "letter_at" spAt [] := cal_letter T
  obtain ⟨f, fd, F, hm, hb⟩ := T.h_combine
  refine ⟨f, fd, _, [], F.ok sc_combine (fun vs H Q E h => ?_) (fun cdv A outer s H vs Q E hr h => ?_), hm, F.kp, hb, .nil⟩
  · obtain ⟨p, q, h1, l1, h2, l2, z, rfl, _⟩ := h
    rfl
  · obtain ⟨p, q, h1, l1, h2, l2, z, rfl, L1, L2, n1, n2, b1, b2, b3, b4, bw, k⟩ := h
    have i0 : ∀ a b : V, atI [a, b] 0 = some a := fun _ _ => rfl
    have i1 : ∀ a b : V, atI [a, b] 1 = some b := fun _ _ => rfl
    obtain ⟨a, b, e1, e2, e3⟩ := id L1
    refine ⟨_, (pss_cons
      (ps_set (i := 3) sc_combine.nd rfl (Or.inr rfl) (C8.pe_c C_shortest_lasso hr (by decide) (by rfl) (pa_cons (pe_ix (ix_tupK (K := K) rfl) (pv 0) pe_int (fun _ _ => rfl)) (pa_cons (pe_ix (ix_tupK (K := K) rfl) (pv 0) pe_int (fun _ _ => rfl)) pa_nil))))
      (pss_cons
      (ps_set (i := 4) sc_combine.nd rfl (Or.inr rfl) (C8.pe_c C_shortest_lasso hr (by decide) (by rfl) (pa_cons (pe_ix (ix_tupK (K := K) rfl) (pv 1) pe_int (fun _ _ => rfl)) (pa_cons (pe_ix (ix_tupK (K := K) rfl) (pv 1) pe_int (fun _ _ => rfl)) pa_nil))))
      (pss_cons
      (ps_set (i := 5) sc_combine.nd rfl (Or.inl rfl) (pe_callB (call_max2 rfl) (by rfl) T.z_max (by decide +kernel) (pa_cons (pe_callB (call_lenK (K := K) rfl) (by rfl) T.z_len PySem.boot_len (pa_cons (pe_ix (ix_tupK (K := K) rfl) (pv 3) pe_int (fun _ _ => rfl)) pa_nil)) (pa_cons (pe_callB (call_lenK (K := K) rfl) (by rfl) T.z_len PySem.boot_len (pa_cons (pe_ix (ix_tupK (K := K) rfl) (pv 4) pe_int (fun _ _ => rfl)) pa_nil)) pa_nil))))
      (pss_cons
      (ps_set (i := 6) sc_combine.nd rfl (Or.inl rfl) (pe_op op_add (pv 5) (pe_callG call_lcm (by rfl) gM (pa_cons (pe_callB (call_lenK (K := K) rfl) (by rfl) T.z_len PySem.boot_len (pa_cons (pe_ix (ix_tupK (K := K) rfl) (pv 3) pe_int (fun _ _ => rfl)) pa_nil)) (pa_cons (pe_callB (call_lenK (K := K) rfl) (by rfl) T.z_len PySem.boot_len (pa_cons (pe_ix (ix_tupK (K := K) rfl) (pv 4) pe_int (fun _ _ => rfl)) pa_nil)) pa_nil)))))
      (pss_cons
      (ps_setLc (i := 7) (own := [("turn", 8)]) (g := gName 8) (tt := tYes) rfl sc_combine.nd rfl rfl (sw_true rfl rfl rfl (by decide +kernel)) (pi_range1 (by rfl) T.z_range (pa_cons (pv 6) pa_nil)) (blkOk_by (N := N_combine) (sc := defScope s_combine) (by decide +kernel)) (fun _ _ _ _ _ => pg_name (i := 8) sc_combine.nd rfl (Or.inl rfl)) (fun _ _ _ _ _ => pts_nil) (fun _ _ _ _ _ => (pe_op op_add (C8.pe_c C_letter_at hr (by decide) (by rfl) (pa_cons (pv 3) (pa_cons (pv 8) pa_nil))) (pe_op op_mul (pv 2) (C8.pe_c C_letter_at hr (by decide) (by rfl) (pa_cons (pv 4) (pa_cons (pv 8) pa_nil)))))))
      (pss_one
      (ps_ret (C8.pe_c C_shortest_lasso hr (by decide) (by rfl) (pa_cons (pe_slice (sl_listK (K := K) rfl) (pv 7) po_none (po_some (pv 5))) (pa_cons (pe_slice (sl_listK (K := K) rfl) (pv 7) (po_some (pv 5)) po_none) pa_nil)))))))))), ?_⟩
    refine ⟨_, rfl, p, _, _, _, rfl, rfl, .of e1, i0 _ _, _, rfl, p, _, _, _, rfl, rfl, .of e1, i1 _ _, a, b, h1, l1, rfl, .inr e2, .inr e3, n1, by omega, by omega, fun H1 p1 g1 m1 s1 La Sa => ?_⟩
    obtain ⟨a', b', e1', e2', e3'⟩ := L2.same s1
    refine ⟨_, rfl, q, _, _, _, rfl, rfl, .of e1', i0 _ _, _, rfl, q, _, _, _, rfl, rfl, .of e1', i1 _ _, a', b', h2, l2, rfl, .inr e2', .inr e3', n2, by omega, by omega, fun H2 p2 g2 m2 s2 Lb Sb => ?_⟩
    have La2 := La.same s2
    obtain ⟨x1, y1, u1, u2, u3⟩ := id La2
    obtain ⟨x2, y2, v1, v2, v3⟩ := id Lb
    have pm1 : 0 < m1.length := List.length_pos_iff.mpr Sa.ne
    have pm2 : 0 < m2.length := List.length_pos_iff.mpr Sb.ne
    have c1 := Sa.hl
    have c2 := Sa.ll
    have c3 := Sb.hl
    have c4 := Sb.ll
    -- start
    refine ⟨_, rfl, p1, _, _, _, rfl, rfl, .of u1, i0 _ _, x1, _, rfl, .inr (.of u2), _, rfl, p2, _, _, _, rfl, rfl, .of v1, i0 _ _, x2, _, rfl, .inr (.of v2), _, _, rfl, ?_⟩
    -- turns
    refine ⟨_, rfl, _, rfl, p1, _, _, _, rfl, rfl, .of u1, i1 _ _, y1, _, rfl, .inr (.of u3), _, rfl, p2, _, _, _, rfl, rfl, .of v1, i1 _ _, y2, _, rfl, .inr (.of v3), m1.length, m2.length, by rw [List.length_map, List.length_map], pm1, pm2, by omega, by omega, _, _, rfl, rfl, ?_⟩
    have hM : 0 < Nat.lcm m1.length m2.length := Nat.lcm_pos pm1 pm2
    have hM2 : Nat.lcm m1.length m2.length ≤ 20 * 20 := Nat.le_trans (Nat.le_of_dvd (Nat.mul_pos pm1 pm2) (Nat.lcm_dvd (Nat.dvd_mul_right _ _) (Nat.dvd_mul_left _ _))) (Nat.mul_le_mul (by omega) (by omega))
    have eM : (if (((g2.map V.int).length : Nat) : Int) > (((g1.map V.int).length : Nat) : Int) then (((g2.map V.int).length : Nat) : Int) else (((g1.map V.int).length : Nat) : Int)) = ((max g1.length g2.length : Nat) : Int) := by
      rw [List.length_map, List.length_map, max_if]
    dsimp only
    rw [eM, ← Int.natCast_add]
    generalize hst : max g1.length g2.length = st
    have hs1 : g1.length ≤ st := by omega
    have hs2 : g2.length ≤ st := by omega
    have hs3 : st ≤ 20 := by omega
    generalize hMm : Nat.lcm m1.length m2.length = M at *
    have d1 : m1.length ∣ M := by rw [← hMm]; exact Nat.dvd_lcm_left _ _
    have d2 : m2.length ∣ M := by rw [← hMm]; exact Nat.dvd_lcm_right _ _
    refine ⟨_, rfl, _, rfl, by omega, by omega, fun D hD => ?_⟩
    refine lc_range (lo := 0) (n := ((st + M : Nat) : Int).toNat) (fun i H' => Same H2 H' ∧ H' D = some (.lst (((List.range i).map (jw g1 m1 g2 m2 z)).map V.int)))
      ⟨same_new hD, upd_same⟩ ?_ ?_
    · rintro i H3 hi ⟨s3, eD⟩
      refine ⟨rfl, _, rfl, _, rfl, p1, g1, m1, i, by rw [Int.zero_add]; rfl, (La2.same s3).pr, Sa.ne, ?_⟩
      refine ⟨_, rfl, _, rfl, _, rfl, p2, g2, m2, i, by rw [Int.zero_add]; rfl, (Lb.same s3).pr, Sb.ne, ?_⟩
      have bw2 := bw i
      rw [← Sb.same] at bw2
      refine ⟨_, _, rfl, rfl, .inr ⟨by omega, by omega⟩, _, _, rfl, rfl, ?_⟩
      refine ⟨_, eD, lenI (by rw [List.length_map, List.length_range]; omega), fun c o hc => ?_, by rw [upd_same, List.range_succ, List.map_append, List.map_append]; rfl⟩
      rw [upd_ne (ne_of_none hc hD)]
      exact s3 _ _ hc
    · rintro H3 ⟨s3, eD⟩
      have eD : H3 D = some (.lst (((List.range (st + M)).map (jw g1 m1 g2 m2 z)).map V.int)) := eD
      -- return shortest_lasso(letters[:start], letters[start:])
      refine ⟨_, rfl, _, rfl, _, rfl, ?_⟩
      refine sll_to eD rfl fun r1 hr1 => ?_
      have t1 : Same H3 (upd H3 r1 (.lst ((((List.range (st + M)).map (jw g1 m1 g2 m2 z)).take st).map V.int))) := same_new hr1
      refine ⟨_, rfl, _, rfl, _, rfl, ?_⟩
      walk_at "nl"
      refine sll_from (t1 _ _ eD) rfl (by rw [List.length_map, List.length_range]; omega) fun r2 hr2 => ?_
      have t2 : Same (upd H3 r1 (.lst ((((List.range (st + M)).map (jw g1 m1 g2 m2 z)).take st).map V.int))) (upd (upd H3 r1 (.lst ((((List.range (st + M)).map (jw g1 m1 g2 m2 z)).take st).map V.int))) r2 (.lst ((((List.range (st + M)).map (jw g1 m1 g2 m2 z)).drop st).map V.int))) := same_new hr2
      have el2 : (((List.range (st + M)).map (jw g1 m1 g2 m2 z)).drop st).length = M := by
        rw [List.length_drop, List.length_map, List.length_range]
        omega
      have el1 : (((List.range (st + M)).map (jw g1 m1 g2 m2 z)).take st).length = st := by
        rw [List.length_take, List.length_map, List.length_range]
        omega
      have ew : ∀ t, jw g1 m1 g2 m2 z t = jw h1 l1 h2 l2 z t := fun t => by
        unfold jw
        rw [Sa.same, Sb.same]
      refine ⟨r1, r2, _, _, rfl, .inl (t2 _ _ upd_same), .inl upd_same, fun y => ?_, by omega, by omega, fun H4 p4 h' l' s4 L4 S4 => ?_⟩
      · rw [y] at el2
        have : (0 : Nat) = M := el2
        omega
      · have o1 := S4.hl
        have o2 := S4.ll
        have mem : ∀ x, x ∈ (List.range (st + M)).map (jw g1 m1 g2 m2 z) → ∃ t, x = jw h1 l1 h2 l2 z t := fun x hx => by
          obtain ⟨t, _, rfl⟩ := List.mem_map.mp hx
          exact ⟨t, ew t⟩
        refine k H4 p4 h' l' (s1.trans (s2.trans (s3.trans (t1.trans (t2.trans s4))))) L4 S4.nrm (fun t => ?_) (by omega) (by omega) (fun x hx => ?_)
        · rw [S4.same, jw_cut Sa.ne Sb.ne hs1 hs2 hM d1 d2, ew]
        · rcases hx with y | y
          · exact mem x (List.mem_of_mem_take (S4.memH x y))
          · exact mem x (List.mem_of_mem_drop (S4.memL x y))
theorem cal_joint (T : Txt K mg) : C8.Cal P w K mg base 2 "_law_joint" spJoint [] := by
  have C_law_at : C8.Cal P w K mg base 1 "_law_at" spAt [] := cal_at T
  obtain ⟨f, fd, F, hm, hb⟩ := T.h_law_joint
  refine ⟨f, fd, _, [], F.ok sc_law_joint (fun vs H Q E h => ?_) (fun cdv A outer s H vs Q E hr h => ?_), hm, F.kp, hb, .nil⟩
  · obtain ⟨p, q, h1, l1, h2, l2, z, rfl, _⟩ := h
    rfl
  · obtain ⟨p, q, h1, l1, h2, l2, z, rfl, L1, L2, n1, n2, b1, b2, b3, b4, bw, k⟩ := h
    have i0 : ∀ a b : V, atI [a, b] 0 = some a := fun _ _ => rfl
    have i1 : ∀ a b : V, atI [a, b] 1 = some b := fun _ _ => rfl
    obtain ⟨a, b, e1, e2, e3⟩ := id L1
    obtain ⟨a', b', e1', e2', e3'⟩ := id L2
    have pm1 : 0 < l1.length := List.length_pos_iff.mpr n1
    have pm2 : 0 < l2.length := List.length_pos_iff.mpr n2
    refine ⟨_, (pss_cons
      (ps_set (i := 3) sc_law_joint.nd rfl (Or.inl rfl) (pe_callB (call_max2 rfl) (by rfl) T.z_max (by decide +kernel) (pa_cons (pe_callB (call_lenK (K := K) rfl) (by rfl) T.z_len PySem.boot_len (pa_cons (pe_ix (ix_tupK (K := K) rfl) (pv 0) pe_int (fun _ _ => rfl)) pa_nil)) (pa_cons (pe_callB (call_lenK (K := K) rfl) (by rfl) T.z_len PySem.boot_len (pa_cons (pe_ix (ix_tupK (K := K) rfl) (pv 1) pe_int (fun _ _ => rfl)) pa_nil)) pa_nil))))
      (pss_cons
      (ps_set (i := 4) sc_law_joint.nd rfl (Or.inl rfl) (pe_op op_mul (pe_callB (call_lenK (K := K) rfl) (by rfl) T.z_len PySem.boot_len (pa_cons (pe_ix (ix_tupK (K := K) rfl) (pv 0) pe_int (fun _ _ => rfl)) pa_nil)) (pe_callB (call_lenK (K := K) rfl) (by rfl) T.z_len PySem.boot_len (pa_cons (pe_ix (ix_tupK (K := K) rfl) (pv 1) pe_int (fun _ _ => rfl)) pa_nil))))
      (pss_cons
      (ps_set (i := 5) sc_law_joint.nd rfl (Or.inl rfl) (pe_lst pa_nil))
      (pss_cons
      (ps_for PassesOwn.never rfl (pi_range1 (by rfl) T.z_range (pa_cons (pe_op op_add (pv 3) (pv 4)) pa_nil)) (pg_name (i := 6) sc_law_joint.nd rfl (.inl rfl)) (pss_one
      (ps_expr (pe_bm PySem.F.plainAttrs_list PySem.F.slot_list_append PySem.F.type_list_append mt_append (pv 5) (pa_cons (pe_op op_add (C8.pe_c C_law_at hr (by decide) (by rfl) (pa_cons (pv 0) (pa_cons (pv 6) pa_nil))) (pe_op op_mul (pv 2) (C8.pe_c C_law_at hr (by decide) (by rfl) (pa_cons (pv 1) (pa_cons (pv 6) pa_nil))))) pa_nil)))))
      (pss_one
      (ps_ret (pe_tup (pa_cons (pe_callTy (call_tuple_ofK (K := K) rfl) (by rfl) T.z_tuple (by decide +kernel) (pa_cons (pe_slice (sl_listK (K := K) rfl) (pv 5) po_none (po_some (pv 3))) pa_nil)) (pa_cons (pe_callTy (call_tuple_ofK (K := K) rfl) (by rfl) T.z_tuple (by decide +kernel) (pa_cons (pe_slice (sl_listK (K := K) rfl) (pv 5) (po_some (pv 3)) po_none) pa_nil)) pa_nil))))))))), ?_⟩
    refine ⟨_, rfl, p, _, _, _, rfl, rfl, .of e1, i0 _ _, a, _, rfl, .inr (.of e2), _, rfl, q, _, _, _, rfl, rfl, .of e1', i0 _ _, a', _, rfl, .inr (.of e2'), _, _, rfl, ?_⟩
    refine ⟨_, rfl, p, _, _, _, rfl, rfl, .of e1, i1 _ _, b, _, rfl, .inr (.of e3), _, rfl, q, _, _, _, rfl, rfl, .of e1', i1 _ _, b', _, rfl, .inr (.of e3'), _, _, rfl, rfl, .inl ⟨by rw [List.length_map]; omega, by rw [List.length_map]; omega⟩, ?_⟩
    have hM : 0 < l1.length * l2.length := Nat.mul_pos pm1 pm2
    have hM2 : l1.length * l2.length ≤ 20 * 20 := Nat.mul_le_mul b2 b4
    have eM : (if (((h2.map V.int).length : Nat) : Int) > (((h1.map V.int).length : Nat) : Int) then (((h2.map V.int).length : Nat) : Int) else (((h1.map V.int).length : Nat) : Int)) = ((max h1.length h2.length : Nat) : Int) := by
      rw [List.length_map, List.length_map, max_if]
    have eP : (((l1.map V.int).length : Nat) : Int) * (((l2.map V.int).length : Nat) : Int) = ((l1.length * l2.length : Nat) : Int) := by
      rw [List.length_map, List.length_map, Int.natCast_mul]
    dsimp only
    rw [eM, eP]
    generalize hst : max h1.length h2.length = st
    have hs1 : h1.length ≤ st := by omega
    have hs2 : h2.length ≤ st := by omega
    have hs3 : st ≤ 20 := by omega
    have d1 : l1.length ∣ l1.length * l2.length := Nat.dvd_mul_right _ _
    have d2 : l2.length ∣ l1.length * l2.length := Nat.dvd_mul_left _ _
    generalize l1.length * l2.length = M at *
    refine ⟨Nat.zero_le _, fun D hD => ?_⟩
    have s0 : Same H (upd H D (.lst [])) := same_new hD
    refine ⟨_, rfl, _, rfl, _, _, rfl, rfl, _, rfl, by omega, by omega, ?_⟩
    rw [← Int.natCast_add]
    refine for_range (lo := 0) (n := ((st + M : Nat) : Int).toNat) (fun i σ H' => ∃ v : Option V, σ = [some (.ref p), some (.ref q), some (.int z), some (.int (st : Nat)), some (.int (M : Nat)), some (.ref D), v] ∧ Same H H' ∧ H' D = some (.lst (((List.range i).map (jw h1 l1 h2 l2 z)).map V.int)))
      ⟨none, rfl, s0, upd_same⟩ ?_ ?_
    · rintro i σ H3 hi ⟨v, rfl, s3, eD⟩
      refine ⟨_, rfl, .inl ⟨rfl, _, .of eD⟩, ?_⟩
      refine ⟨_, rfl, _, rfl, p, h1, l1, i, by rw [Int.zero_add]; rfl, (L1.same s3).pr, n1, ?_⟩
      refine ⟨_, rfl, _, rfl, _, rfl, q, h2, l2, i, by rw [Int.zero_add]; rfl, (L2.same s3).pr, n2, ?_⟩
      have bw2 := bw i
      refine ⟨_, _, rfl, rfl, .inr ⟨by omega, by omega⟩, _, _, rfl, rfl, ?_⟩
      refine ⟨D, _, _, rfl, rfl, eD, lenI (by rw [List.length_map, List.length_range]; omega), _, rfl, fun c o hc => ?_, by rw [upd_same, List.range_succ, List.map_append, List.map_append]; rfl⟩
      rw [upd_ne (ne_of_none hc hD)]
      exact s3 _ _ hc
    · rintro σ H3 ⟨v, rfl, s3, eD⟩
      have eD : H3 D = some (.lst (((List.range (st + M)).map (jw h1 l1 h2 l2 z)).map V.int)) := eD
      refine ⟨_, rfl, _, rfl, _, rfl, ?_⟩
      refine sll_to eD rfl fun r1 hr1 => ?_
      have t1 : Same H3 (upd H3 r1 (.lst ((((List.range (st + M)).map (jw h1 l1 h2 l2 z)).take st).map V.int))) := same_new hr1
      refine ⟨r1, _, rfl, .inl ⟨.of upd_same, fun r2 hr2 => ?_⟩⟩
      have t2 := t1.trans (same_new (o := .tup ((((List.range (st + M)).map (jw h1 l1 h2 l2 z)).take st).map V.int)) hr2)
      have eD2 := t2 _ _ eD
      have er2 : (upd (upd H3 r1 (.lst ((((List.range (st + M)).map (jw h1 l1 h2 l2 z)).take st).map V.int))) r2 (.tup ((((List.range (st + M)).map (jw h1 l1 h2 l2 z)).take st).map V.int))) r2 = some (.tup ((((List.range (st + M)).map (jw h1 l1 h2 l2 z)).take st).map V.int)) := upd_same
      generalize upd (upd H3 r1 (.lst ((((List.range (st + M)).map (jw h1 l1 h2 l2 z)).take st).map V.int))) r2 (.tup ((((List.range (st + M)).map (jw h1 l1 h2 l2 z)).take st).map V.int)) = H4 at *
      refine ⟨_, rfl, _, rfl, _, rfl, ?_⟩
      walk_at "nl"
      refine sll_from eD2 rfl (by rw [List.length_map, List.length_range]; omega) fun r3 hr3 => ?_
      have t3 := same_new (o := .lst ((((List.range (st + M)).map (jw h1 l1 h2 l2 z)).drop st).map V.int)) hr3
      refine ⟨r3, _, rfl, .inl ⟨.of upd_same, fun r4 hr4 => ?_⟩⟩
      have t4 := t3.trans (same_new (o := .tup ((((List.range (st + M)).map (jw h1 l1 h2 l2 z)).drop st).map V.int)) hr4)
      have er4 := t4 _ _ er2
      have er5 : (upd (upd H4 r3 (.lst ((((List.range (st + M)).map (jw h1 l1 h2 l2 z)).drop st).map V.int))) r4 (.tup ((((List.range (st + M)).map (jw h1 l1 h2 l2 z)).drop st).map V.int))) r4 = some (.tup ((((List.range (st + M)).map (jw h1 l1 h2 l2 z)).drop st).map V.int)) := upd_same
      generalize upd (upd H4 r3 (.lst ((((List.range (st + M)).map (jw h1 l1 h2 l2 z)).drop st).map V.int))) r4 (.tup ((((List.range (st + M)).map (jw h1 l1 h2 l2 z)).drop st).map V.int)) = H5 at *
      refine ⟨by show 2 ≤ sizeLine; decide, fun p' hp' => ?_⟩
      have t5 := same_new (o := .tup [.ref r2, .ref r4]) hp'
      have el2 : (((List.range (st + M)).map (jw h1 l1 h2 l2 z)).drop st).length = M := by
        rw [List.length_drop, List.length_map, List.length_range]
        omega
      have el1 : (((List.range (st + M)).map (jw h1 l1 h2 l2 z)).take st).length = st := by
        rw [List.length_take, List.length_map, List.length_range]
        omega
      refine k _ p' _ _ (s3.trans (t2.trans (t4.trans t5))) ⟨r2, r4, upd_same, t5 _ _ er4, t5 _ _ er5⟩ (fun y => ?_) (fun t => jw_cut n1 n2 hs1 hs2 hM d1 d2 t) (by omega) (by omega)
      rw [y] at el2
      have : (0 : Nat) = M := el2
      omega
theorem ok_law {f : Addr} {fd : FuncData} (F : L2.Fun K "law" "law" s_law f fd) (T : Txt K mg) : FnOk P w K mg base CX0 5 f fd ["script"] (spLaw K) := by
  obtain ⟨cL, eL, gM⟩ := T.er
  have C_law_draws : C8.Cal P w K mg base 1 "_law_draws" (spDraws K) [] := cal_draws T
  have C_law_take : C8.Cal P w K mg base 1 "_law_take" spTake [] := cal_take T
  have C_law_cell : C8.Cal P w K mg base 1 "_law_cell" (spCell K) [] := cal_cell T
  have C_law_lasso : C8.Cal P w K mg base 2 "_law_lasso" spLasso [] := cal_lasso T
  have C_law_is_lasso : C8.Cal P w K mg base 3 "_law_is_lasso" spIsLasso [] := cal_islasso T
  have C_law_same : C8.Cal P w K mg base 2 "_law_same" spSame [] := cal_same T
  have C_law_outcome : C8.Cal P w K mg base 4 "_law_outcome" spRelOut [] := cal_relout T eL
  have C_combine : C8.Cal P w K mg base 3 "combine" spComb [] := cal_combine T gM
  have C_law_joint : C8.Cal P w K mg base 2 "_law_joint" spJoint [] := cal_joint T
  refine F.ok sc_law (fun vs H Q E h => ?_) (fun cdv A outer s H vs Q E hr h => ?_)
  · obtain ⟨a, ns, rfl, _⟩ := h
    rfl
  · obtain ⟨sa, ns, rfl, hS, hlen, q⟩ := h
    have i0 : ∀ a b : V, atI [a, b] 0 = some a := fun _ _ => rfl
    have i1 : ∀ a b : V, atI [a, b] 1 = some b := fun _ _ => rfl
    refine ⟨_, (pss_cons
      (ps_set (i := 1) sc_law.nd rfl (Or.inr rfl) (C8.pe_c C_law_draws hr (by decide) (by rfl) (pa_cons (pv 0) (pa_cons pe_int pa_nil))))
      (pss_cons
      (ps_set (i := 2) sc_law.nd rfl (Or.inl rfl) (C8.pe_c C_law_lasso hr (by decide) (by rfl) (pa_cons (pv 1) (pa_cons pe_int (pa_cons pe_int pa_nil)))))
      (pss_cons
      (ps_set (i := 3) sc_law.nd rfl (Or.inl rfl) (C8.pe_c C_law_lasso hr (by decide) (by rfl) (pa_cons (pv 1) (pa_cons pe_int (pa_cons pe_int pa_nil)))))
      (pss_cons
      (ps_set (i := 4) sc_law.nd rfl (Or.inl rfl) (pe_op op_add pe_int (C8.pe_c C_law_take hr (by decide) (by rfl) (pa_cons (pv 1) (pa_cons pe_int pa_nil)))))
      (C8.pss_cut
      (ps_if (pt_cmpR op_eq (C8.pe_c C_law_take hr (by decide) (by rfl) (pa_cons (pv 1) (pa_cons pe_int pa_nil))) pe_int (nomark _)) (pss_one
      (ps_set (i := 4) sc_law.nd rfl (Or.inl rfl) (pe_op op_add (pe_op op_mod (pe_callTy call_int1 (by rfl) T.z_int (by decide +kernel) (pa_cons (C8.pe_c C_law_cell hr (by decide) (by rfl) (pa_cons (pv 0) (pa_cons pe_int pa_nil))) pa_nil)) (pe_op op_pow pe_int pe_int)) pe_int))) pss_nil)
      (pss_cons
      (ps_set (i := 5) sc_law.nd rfl (Or.inr rfl) (pe_lc (own := [("k", 11)]) (g := gName 11) (tt := tYes) rfl sc_law.nd (pi_range1 (by rfl) T.z_range (pa_cons (C8.pe_c C_law_take hr (by decide) (by rfl) (pa_cons (pv 1) (pa_cons pe_int pa_nil))) pa_nil)) (blkOk_by (N := N_law) (sc := defScope s_law) (by decide +kernel)) (fun _ _ _ _ _ => pg_name (i := 11) sc_law.nd rfl (Or.inl rfl)) (fun _ _ _ _ _ => pts_nil) (fun _ _ _ _ _ => (C8.pe_c C_law_take hr (by decide) (by rfl) (pa_cons (pv 1) (pa_cons pe_int pa_nil))))))
      (pss_cons
      (ps_set (i := 6) sc_law.nd rfl (Or.inl rfl) (pe_callTy (call_list_ofK (K := K) rfl) (by rfl) T.z_list (by decide +kernel) (pa_cons (pv 5) pa_nil)))
      (pss_cons
      (ps_set (i := 7) sc_law.nd rfl (Or.inl rfl) (C8.pe_c C_law_outcome hr (by decide) (by rfl) (pa_cons (pv 2) (pa_cons (pv 6) pa_nil))))
      (pss_cons
      (ps_if (pt_cmpR (op_neDK (K := K) rfl hr.units) (pv 6) (pv 5) (nomark _)) (pss_one
      (ps_ret pe_bl)) pss_nil)
      (pss_cons
      (ps_setLc (i := 8) (own := [("letter", 12)]) (g := gName 12) rfl sc_law.nd rfl rfl (sw_true rfl rfl rfl (by decide +kernel)) (pi_tup (pe_op (op_catK (K := K) rfl) (pe_ix (ix_tupK (K := K) rfl) (pv 2) pe_int (fun _ _ => rfl)) (pe_ix (ix_tupK (K := K) rfl) (pv 2) pe_int (fun _ _ => rfl)))) (blkOk_by (N := N_law) (sc := defScope s_law) (by decide +kernel)) (fun _ _ _ _ _ => pg_name (i := 12) sc_law.nd rfl (Or.inl rfl)) (fun _ _ _ _ _ => (pts_one (pt_cmpR op_ge (pv 12) (pe_callB (call_lenK (K := K) rfl) (by rfl) T.z_len PySem.boot_len (pa_cons (pv 5) pa_nil)) (nomark _)))) (fun _ _ _ _ _ => (pv 12)))
      (C8.pss_cut
      (ps_if (pt_cmpR op_gt (pe_callB (call_lenK (K := K) rfl) (by rfl) T.z_len PySem.boot_len (pa_cons (pv 8) pa_nil)) pe_int (nomark _)) (pss_one
      (ps_if (pt_cmpR op_notN (pv 7) pe_non (nomark _)) (pss_one
      (ps_ret pe_bl)) pss_nil)) (pss_cons
      (ps_if (PW.pt (pw_or (pt_cmpR op_isN (pv 7) pe_non (nomark _)) (pw_or1 (pt_not (pt_val (C8.pe_c C_law_is_lasso hr (by decide) (by rfl) (pa_cons (pv 7) (pa_cons pe_int pa_nil)))))))) (pss_one
      (ps_ret pe_bl)) pss_nil)
      (pss_cons
      (ps_setLc (i := 9) (own := [("letter", 12)]) (g := gName 12) (tt := tYes) rfl sc_law.nd rfl rfl (sw_true rfl rfl rfl (by decide +kernel)) (pi_tup (pe_ix (ix_tupK (K := K) rfl) (pv 2) pe_int (fun _ _ => rfl))) (blkOk_by (N := N_law) (sc := defScope s_law) (by decide +kernel)) (fun _ _ _ _ _ => pg_name (i := 12) sc_law.nd rfl (Or.inl rfl)) (fun _ _ _ _ _ => pts_nil) (fun _ _ _ _ _ => (pe_ix (ix_listK (K := K) rfl) (pv 5) (pv 12) (fun _ _ => rfl))))
      (pss_one
      (ps_if (pt_not (pt_val (C8.pe_c C_law_same hr (by decide) (by rfl) (pa_cons (pv 7) (pa_cons (pe_tup (pa_cons (pv 9) (pa_cons (pe_lc (own := [("letter", 12)]) (g := gName 12) (tt := tYes) rfl sc_law.nd (pi_tup (pe_ix (ix_tupK (K := K) rfl) (pv 2) pe_int (fun _ _ => rfl))) (blkOk_by (N := N_law) (sc := defScope s_law) (by decide +kernel)) (fun _ _ _ _ _ => pg_name (i := 12) sc_law.nd rfl (Or.inl rfl)) (fun _ _ _ _ _ => pts_nil) (fun _ _ _ _ _ => (pe_ix (ix_listK (K := K) rfl) (pv 5) (pv 12) (fun _ _ => rfl)))) pa_nil))) pa_nil))))) (pss_one
      (ps_ret pe_bl)) pss_nil)))))
      (pss_cons
      (ps_set (i := 10) sc_law.nd rfl (Or.inl rfl) (C8.pe_c C_combine hr (by decide) (by rfl) (pa_cons (pv 2) (pa_cons (pv 3) (pa_cons (pv 4) pa_nil)))))
      (pss_cons
      (ps_if (pt_not (pt_val (C8.pe_c C_law_is_lasso hr (by decide) (by rfl) (pa_cons (pv 10) (pa_cons (pe_op op_add pe_int (pe_op op_mul pe_int (pv 4))) pa_nil))))) (pss_one
      (ps_ret pe_bl)) pss_nil)
      (pss_one
      (ps_ret (C8.pe_c C_law_same hr (by decide) (by rfl) (pa_cons (pv 10) (pa_cons (C8.pe_c C_law_joint hr (by decide) (by rfl) (pa_cons (pv 2) (pa_cons (pv 3) (pa_cons (pv 4) pa_nil)))) pa_nil)))))))))))))))))), ?_⟩
    refine ⟨_, rfl, sa, ns, 50, rfl, hS, by decide, fun H1 d s1 hd0 d1 => ?_⟩
    have hS2 : ∀ H' : Hp, Kp d H1 H' → SqL K H' sa (ns.map V.int) := fun H' k => by
      have hs1 := s1.seq hS
      rcases hS with (z | ⟨o, z⟩) | z
      · have ne : sa ≠ d := fun e => by rw [e, hd0] at z; cases z
        exact .inl (.inl (k _ _ ne (s1 _ _ z)))
      · have ne : sa ≠ d := fun e => by rw [e, hd0] at z; cases z
        exact .inl (.inr ⟨o, k _ _ ne (s1 _ _ z)⟩)
      · exact .inr z
    refine ⟨_, rfl, d, 4, 4, rfl, d1, by decide, by decide, by decide, fun H2 p h1 l1 k2 d2 L1 lh1 n1 ll1 bh1 bl1 => ?_⟩
    refine ⟨_, rfl, d, 4, 4, rfl, d2, by decide, by decide, by decide, fun H3 p2 h2 l2 k3 d3 L2 lh2 n2 ll2 bh2 bl2 => ?_⟩
    have L1 : Las H3 p h1 l1 := L1.keep k3 d2
    have kk : Kp d H1 H3 := k2.trans k3
    -- size
    refine ⟨_, rfl, d, 9, rfl, d3, by decide, fun r ds r0 r1 => ?_⟩
    have L1' : Las (upd H3 d (.lst (ds.map V.int))) p h1 l1 := L1.keep Kp.own d3
    have L2' : Las (upd H3 d (.lst (ds.map V.int))) p2 h2 l2 := L2.keep Kp.own d3
    have d4 : Drw (upd H3 d (.lst (ds.map V.int))) d := Drw.own
    have kk4 : Kp d H1 (upd H3 d (.lst (ds.map V.int))) := kk.trans Kp.own
    generalize upd H3 d (.lst (ds.map V.int)) = H4 at *
    clear L1 L2 d1 d2 d3 k2 k3 kk
    refine ⟨_, _, rfl, rfl, ?_⟩
    refine ⟨fun σ H' => ∃ z : Int, 1 ≤ z ∧ σ = [some (.ref sa), some (.ref d), some (.ref p), some (.ref p2), some (.int z), none, none, none, none, none, none, none, none] ∧ Las H' p h1 l1 ∧ Las H' p2 h2 l2 ∧ Drw H' d, ?_, ?_⟩
    · refine ⟨_, rfl, d, 4, rfl, d4, by decide, fun r2 ds3 _ _ => ?_⟩
      have L1 : Las (upd H4 d (.lst (ds3.map V.int))) p h1 l1 := L1'.keep Kp.own d4
      have L2 : Las (upd H4 d (.lst (ds3.map V.int))) p2 h2 l2 := L2'.keep Kp.own d4
      have d5 : Drw (upd H4 d (.lst (ds3.map V.int))) d := Drw.own
      have kk5 : Kp d H1 (upd H4 d (.lst (ds3.map V.int))) := kk4.trans Kp.own
      generalize upd H4 d (.lst (ds3.map V.int)) = H5 at *
      refine ⟨rfl, _, rfl, ite_eq (fun _ => ?_) (fun _ => ⟨_, by omega, rfl, L1, L2, d5⟩)⟩
      refine ⟨_, rfl, sa, ns, 0, rfl, hS2 _ kk5, fun v => .inl ⟨_, rfl, ?_⟩⟩
      refine ⟨_, _, rfl, rfl, ⟨by decide, by decide⟩, _, _, rfl, rfl, (show (0 : Int) < _ by decide), _, _, rfl, rfl, ?_⟩
      have nn : (0 : Int) ≤ v % (10 ^ ((20 : Int)).toNat) := Int.emod_nonneg _ (by decide)
      exact ⟨_, by omega, rfl, L1, L2, d5⟩
    · rintro σ H5 ⟨z, hz, rfl, L1, L2, d5⟩
      -- table
      refine ⟨_, rfl, d, 7, rfl, d5, by decide, fun r ds r0 r1 => ?_⟩
      refine ⟨_, rfl, by omega, by omega, fun D hD => ?_⟩
      have nDd : D ≠ d := fun z => by rw [z, upd_same] at hD; cases hD
      have hD5 : H5 D = none := by rw [upd_ne nDd] at hD; exact hD
      refine lc_range (lo := 0) (n := r.toNat) (fun i H' => ∃ xs : List Int, Kp d H5 H' ∧ Drw H' d ∧ H' D = some (.lst (xs.map V.int)) ∧ xs.length = i ∧ ∀ x ∈ xs, 0 ≤ x ∧ x < 5)
        ⟨[], Kp.own.trans (Kp.new hD), Drw.own.new hD, upd_same, rfl, by simp⟩ ?_ ?_
      · rintro i H7 hi ⟨xs, k7, d7, e7, el, hx⟩
        refine ⟨rfl, _, rfl, d, _, rfl, d7, by decide, fun u us u0 u1 => ?_⟩
        refine ⟨xs.map V.int, by rw [upd_ne nDd]; exact e7, lenI (by omega), xs ++ [u], ?_, ?_, ?_, ?_, ?_⟩
        · intro b o nb hb
          rw [upd_ne (fun z => by rw [z, hD5] at hb; cases hb), upd_ne nb]
          exact k7 _ _ nb hb
        · exact ⟨us, by rw [upd_ne nDd.symm, upd_same]⟩
        · rw [upd_same, List.map_append]
          rfl
        · simp [el]
        · intro x hx2
          rcases List.mem_append.mp hx2 with z | z
          · exact hx x z
          · rw [List.mem_singleton.mp z]
            exact ⟨u0, u1⟩
      · rintro H6 ⟨tb, k6, d6, eD, etl, bt⟩
        have L16 := L1.keep k6 d5
        have L26 := L2.keep k6 d5
        clear L1 L2 L1' L2'
        -- passed
        refine ⟨_, rfl, D, _, rfl, .inl (.of eD), fun D2 hD2 => ?_⟩
        have s7 : Same H6 (upd H6 D2 (.lst (tb.map V.int))) := same_new hD2
        have eD2 : (upd H6 D2 (.lst (tb.map V.int))) D2 = some (.lst (tb.map V.int)) := upd_same
        have eD7 := s7 _ _ eD
        have L17 := L16.same s7
        have L27 := L26.same s7
        generalize upd H6 D2 (.lst (tb.map V.int)) = H7 at *
        have hnn : ∀ x, x ∈ h1 ∨ x ∈ l1 → 0 ≤ x ∧ x < 4 := fun x hx => by
          rcases hx with y | y
          · exact bh1 x y
          · exact bl1 x y
        -- found
        refine ⟨_, rfl, _, rfl, p, D2, h1, l1, tb, rfl, L17, eD2, n1, by omega, by omega, fun x hx => (hnn x hx).1, fun v H8 s8 W => ?_⟩
        have eD8 := s8 _ _ eD7
        have eD28 := s8 _ _ eD2
        have L18 := L17.same s8
        have L28 := L27.same s8
        refine ⟨_, rfl, _, rfl, _, _, dp_lst eD28, dp_lst eD8, shaped_lst _, shaped_lst _, ?_⟩
        rw [eqv_lst, decide_eq_true rfl]
        refine ⟨_, rfl, ?_⟩
        -- outside
        obtain ⟨a, b, e1, e2, e3⟩ := id L18
        have t2 : TupI H8 a h1 := e2
        have t3 : TupI H8 b l1 := e3
        refine ⟨_, rfl, p, _, _, _, rfl, rfl, .of e1, i0 _ _, _, rfl, p, _, _, _, rfl, rfl, .of e1, i1 _ _, ?_⟩
        refine catq t2 t3 (by omega) fun H9 c s9 e9 => ?_
        have eD9 := s9 _ _ eD8
        refine ⟨c, rfl, ⟨_, .of e9⟩, fun D3 hD3 => ?_⟩
        refine lc_tup (K := K) (a := c) (xs := (h1 ++ l1).map V.int) (fun i H' => Same H9 H' ∧ H' D3 = some (.lst ((((h1 ++ l1).take i).filter fun x => decide ((tb.length : Int) ≤ x)).map V.int)))
          ⟨same_new hD3, upd_same⟩ (fun i H' _ ⟨z, _⟩ => .of (z _ _ e9)) ?_ ?_
        · rintro i y H10 hi ⟨s10, eD3⟩
          obtain ⟨x, hx, rfl⟩ : ∃ x, (h1 ++ l1)[i]? = some x ∧ y = V.int x := by
            rw [List.getElem?_map] at hi
            cases e : (h1 ++ l1)[i]? with
            | none => rw [e] at hi; cases hi
            | some z => rw [e] at hi; exact ⟨z, rfl, (Option.some.inj hi).symm⟩
          have il : i < (h1 ++ l1).length := (List.getElem?_eq_some_iff.mp hx).1
          have eT : (h1 ++ l1).take (i + 1) = (h1 ++ l1).take i ++ [x] := by
            rw [List.take_add_one, hx]
            rfl
          refine ⟨rfl, _, rfl, _, rfl, D, _, rfl, .inl (.of (s10 _ _ eD9)), _, _, rfl, rfl, _, rfl, ?_⟩
          rw [List.length_map]
          refine ite2 (fun c => ?_) (fun c => ?_)
          · refine ⟨_, rfl, _, eD3, lenI ?_, fun b o hb => ?_, ?_⟩
            · have := List.length_filter_le (fun x : Int => decide ((tb.length : Int) ≤ x)) ((h1 ++ l1).take i)
              rw [List.length_take, List.length_append] at this
              omega
            · rw [upd_ne (ne_of_none hb hD3)]
              exact s10 _ _ hb
            · rw [upd_same, eT, List.filter_append, List.map_append, List.filter_cons, c]
              rfl
          · refine ⟨s10, ?_⟩
            rw [eT, List.filter_append, List.filter_cons, if_neg c, List.filter_nil]
            simpa using eD3
        · rintro H10 ⟨s10, eD3⟩
          rw [List.length_map, List.take_length] at eD3
          have eD10 := s10 _ _ eD9
          have L110 := (L18.same s9).same s10
          have L210 := (L28.same s9).same s10
          refine ⟨fun σ H' => ∃ v7 v9 : Option V, σ = [some (.ref sa), some (.ref d), some (.ref p), some (.ref p2), some (.int z), some (.ref D), some (.ref D2), v7, some (.ref D3), v9, none, none, none] ∧ Las H' p h1 l1 ∧ Las H' p2 h2 l2, ?_, ?_⟩
          · refine ⟨_, rfl, D3, _, rfl, .inl (.of eD3), _, _, rfl, rfl, _, rfl, ite_lt (fun c0 => ?_) (fun c0 => ?_)⟩
            · rcases W with ⟨_, rfl⟩ | ⟨W, _⟩
              · exact ⟨_, rfl, rfl, _, rfl, ⟨_, _, rfl, L110, L210⟩⟩
              · exfalso
                rw [List.length_map] at c0
                obtain ⟨x, hx⟩ := List.exists_mem_of_length_pos (l := (h1 ++ l1).filter fun x => decide ((tb.length : Int) ≤ x)) (by omega)
                obtain ⟨g1, g2⟩ := List.mem_filter.mp hx
                have := W x (List.mem_append.mp g1)
                have := of_decide_eq_true g2
                omega
            · rcases W with ⟨⟨x, hx, x0⟩, _⟩ | ⟨W, p', h', l', rfl, LF, SF⟩
              · exfalso
                rw [List.length_map] at c0
                have hm : x ∈ (h1 ++ l1).filter fun x => decide ((tb.length : Int) ≤ x) := List.mem_filter.mpr ⟨List.mem_append.mpr hx, decide_eq_true x0⟩
                have := List.length_pos_of_mem hm
                omega
              · have LF10 := (LF.same s9).same s10
                have mt : ∀ x, x ∈ h1 ∨ x ∈ l1 → 0 ≤ tab tb x ∧ tab tb x < 5 := fun x hx => by
                  have h0 := (hnn x hx).1
                  have h9 := W x hx
                  have hj : x.toNat < tb.length := by omega
                  unfold tab
                  rw [List.getD_eq_getElem?_getD, List.getElem?_eq_getElem hj]
                  exact bt _ (List.getElem_mem hj)
                have bo : ∀ x ∈ h', 0 ≤ x ∧ x < 5 := fun x hx => by
                  obtain ⟨y, hy, rfl⟩ := List.mem_map.mp (SF.memH x hx)
                  exact mt y (.inl hy)
                have bp : ∀ x ∈ l', 0 ≤ x ∧ x < 5 := fun x hx => by
                  obtain ⟨y, hy, rfl⟩ := List.mem_map.mp (SF.memL x hx)
                  exact mt y (.inr hy)
                have o1 := SF.hl
                have o2 := SF.ll
                rw [List.length_map] at o1 o2
                refine ⟨_, rfl, rfl, _, rfl, ?_⟩
                refine ⟨_, rfl, p', h', l', 5, rfl, LF10, SF.nrm, by omega, bo, bp, fun H11 s11 => ⟨true, rfl, ?_⟩⟩
                have L111 := L110.same s11
                have eD11 := s11 _ _ eD10
                obtain ⟨a, b, e1, e2, e3⟩ := id L111
                have step : ∀ (xs : List Int) (i : Nat) (x : Int), (∀ x ∈ xs, 0 ≤ x ∧ x < (tb.length : Int)) → xs[i]? = some x → (tb.map V.int)[x.toNat]? = some (.int (tab tb x)) ∧ x = ((x.toNat : Nat) : Int) ∧ ((xs.take i).map (tab tb)).map V.int ++ [V.int (tab tb x)] = ((xs.take (i + 1)).map (tab tb)).map V.int := fun xs i x hb hi => by
                  obtain ⟨c1, c2⟩ := hb x (List.mem_of_getElem? hi)
                  refine ⟨at_map (by omega), by omega, ?_⟩
                  rw [List.take_add_one, hi, List.map_append, List.map_append]
                  rfl
                -- heads
                refine ⟨_, rfl, p, _, _, _, rfl, rfl, .of e1, i0 _ _, a, rfl, ⟨_, .of e2⟩, fun E1 hE1 => ?_⟩
                refine lc_tup (K := K) (a := a) (xs := h1.map V.int) (fun i H' => Same H11 H' ∧ H' E1 = some (.lst (((h1.take i).map (tab tb)).map V.int)))
                  ⟨same_new hE1, upd_same⟩ (fun i H' _ ⟨z, _⟩ => .of (z _ _ e2)) ?_ ?_
                · rintro i y H12 hi ⟨s12, eE⟩
                  obtain ⟨x, hx2, rfl⟩ : ∃ x, h1[i]? = some x ∧ y = V.int x := by
                    rw [List.getElem?_map] at hi
                    cases e : h1[i]? with
                    | none => rw [e] at hi; cases hi
                    | some z => rw [e] at hi; exact ⟨z, rfl, (Option.some.inj hi).symm⟩
                  obtain ⟨g1, g2, g3⟩ := step h1 i x (fun x hm => ⟨(hnn x (.inl hm)).1, W x (.inl hm)⟩) hx2
                  refine ⟨rfl, _, rfl, _, rfl, D, _, _, .int (tab tb x), rfl, rfl, .of (s12 _ _ eD11), by rw [g2]; exact atI_nat g1, _, eE, lenI (by rw [List.length_map, List.length_take]; omega), fun c o hc => ?_, by rw [upd_same, g3]⟩
                  rw [upd_ne (ne_of_none hc hE1)]
                  exact s12 _ _ hc
                · rintro H12 ⟨s12, eE⟩
                  rw [List.length_map, List.take_length] at eE
                  have e112 := s12 _ _ e1
                  have e312 := s12 _ _ e3
                  -- _law_same(found, (heads, [..]))
                  refine ⟨_, rfl, _, rfl, _, rfl, p, _, _, _, rfl, rfl, .of e112, i1 _ _, b, rfl, ⟨_, .of e312⟩, fun E2 hE2 => ?_⟩
                  refine lc_tup (K := K) (a := b) (xs := l1.map V.int) (fun i H' => Same H12 H' ∧ H' E2 = some (.lst (((l1.take i).map (tab tb)).map V.int)))
                    ⟨same_new hE2, upd_same⟩ (fun i H' _ ⟨z, _⟩ => .of (z _ _ e312)) ?_ ?_
                  · rintro i y H13 hi ⟨s13, eE2⟩
                    obtain ⟨x, hx2, rfl⟩ : ∃ x, l1[i]? = some x ∧ y = V.int x := by
                      rw [List.getElem?_map] at hi
                      cases e : l1[i]? with
                      | none => rw [e] at hi; cases hi
                      | some z => rw [e] at hi; exact ⟨z, rfl, (Option.some.inj hi).symm⟩
                    obtain ⟨g1, g2, g3⟩ := step l1 i x (fun x hm => ⟨(hnn x (.inr hm)).1, W x (.inr hm)⟩) hx2
                    refine ⟨rfl, _, rfl, _, rfl, D, _, _, .int (tab tb x), rfl, rfl, .of (s13 _ _ (s12 _ _ eD11)), by rw [g2]; exact atI_nat g1, _, eE2, lenI (by rw [List.length_map, List.length_take]; omega), fun c o hc => ?_, by rw [upd_same, g3]⟩
                    rw [upd_ne (ne_of_none hc hE2)]
                    exact s13 _ _ hc
                  · rintro H13 ⟨s13, eE2⟩
                    rw [List.length_map, List.take_length] at eE2
                    refine ⟨by show 2 ≤ sizeLine; decide, fun pr hpr => ?_⟩
                    have s14 := same_new (o := .tup [.ref E1, .ref E2]) hpr
                    have S := s11.trans (s12.trans (s13.trans s14))
                    have nl : l1.map (tab tb) ≠ [] := fun y => n1 (List.map_eq_nil_iff.mp y)
                    refine ⟨p', pr, h', l', h1.map (tab tb), l1.map (tab tb), rfl, (LF10.same S).pr, ⟨E1, E2, upd_same, .inl (s14 _ _ (s13 _ _ eE)), .inl (s14 _ _ eE2)⟩, SF.ne, nl, ?_, SF.same, true, rfl, ?_⟩
                    · unfold dfn
                      rw [List.length_map, List.length_map]
                      omega
                    · exact ⟨_, _, rfl, L110.same S, L210.same S⟩
          · rintro σ H11 ⟨v7, v9, rfl, L1, L2⟩
            have bw : ∀ t, 0 ≤ wat h2 l2 t ∧ wat h2 l2 t < 4 := fun t => by
              rcases wat_mem (h := h2) n2 t with y | y
              · exact bh2 _ y
              · exact bl2 _ y
            have bw1 : ∀ t, 0 ≤ wat h1 l1 t ∧ wat h1 l1 t < 4 := fun t => by
              rcases wat_mem (h := h1) n1 t with y | y
              · exact bh1 _ y
              · exact bl1 _ y
            have bj : ∀ t, 0 ≤ jw h1 l1 h2 l2 z t ∧ jw h1 l1 h2 l2 z t < 4 + 4 * z := fun t => by
              obtain ⟨x1, x2⟩ := bw t
              obtain ⟨y1, y2⟩ := bw1 t
              have m1 : 0 ≤ z * wat h2 l2 t := Int.mul_nonneg (by omega) x1
              have m2 : z * wat h2 l2 t ≤ z * 3 := Int.mul_le_mul_of_nonneg_left (by omega) (by omega)
              unfold jw
              omega
            -- both
            refine ⟨_, rfl, _, rfl, _, rfl, p, p2, h1, l1, h2, l2, z, rfl, L1, L2, n1, n2, by omega, by omega, by omega, by omega, fun t => ⟨(bw t).1, by have := (bw t).2; omega⟩, fun H12 p' h' l' s12 LB NB WB b1 b2 mB => ?_⟩
            have bo : ∀ x ∈ h', 0 ≤ x ∧ x < 4 + 4 * z := fun x hx => by
              obtain ⟨t, rfl⟩ := mB x (.inl hx)
              exact bj t
            have bp : ∀ x ∈ l', 0 ≤ x ∧ x < 4 + 4 * z := fun x hx => by
              obtain ⟨t, rfl⟩ := mB x (.inr hx)
              exact bj t
            refine ⟨_, rfl, _, rfl, _, _, rfl, rfl, .inl ⟨by decide, by decide⟩, _, _, rfl, rfl, p', h', l', _, rfl, LB, NB, by omega, bo, bp, fun H13 s13 => ⟨true, rfl, ?_⟩⟩
            refine ⟨_, rfl, _, rfl, _, rfl, _, rfl, p, p2, h1, l1, h2, l2, z, rfl, (L1.same s12).same s13, (L2.same s12).same s13, n1, n2, by omega, by omega, by omega, by omega, fun t => ⟨(bw t).1, by have := (bw t).2; omega⟩, fun H14 pj hj lj s14 LJ nJ WJ c1 c2 => ?_⟩
            exact ⟨p', pj, h', l', hj, lj, rfl, ((LB.same s13).same s14).pr, LJ.pr, NB.ne, nJ, by unfold dfn; omega, fun t => by rw [WB, WJ], q _⟩
end

theorem all_mk {l : PySem.W.OpenLaw} {w : World} {K : PySem.W.Frag} {h : Heap} {mg : Str → Option Value} {fa : Addr} {f0 f1 f2 f3 f4 f5 f6 f7 f8 f9 f10 f11 f12 f13 f14 f15 f16 f17 f18 cL : Addr} (X : K.In h) (G : h.Ns mainGlobals mg) (hfa : mg "law" = some (.ref fa))
    {od0 an0 od1 an1 od2 an2 od3 an3 od4 an4 od5 an5 od6 an6 od7 an7 od8 an8 od9 an9 od10 an10 od11 an11 od12 an12 od13 an13 od14 an14 od15 an15 od16 an16 od17 an17 od18 an18 : Option Addr} {sl0 sl1 sl2 sl3 sl4 sl5 sl6 sl7 sl8 sl9 sl10 sl11 sl12 sl13 sl14 sl15 sl16 sl17 sl18 : Array (Option Value)} {oc0 kV0 dc0 pm0 cd0 ct0 oc1 kV1 dc1 pm1 cd1 ct1 oc2 kV2 dc2 pm2 cd2 ct2 oc3 kV3 dc3 pm3 cd3 ct3 oc4 kV4 dc4 pm4 cd4 ct4 oc5 kV5 dc5 pm5 cd5 ct5 oc6 kV6 dc6 pm6 cd6 ct6 oc7 kV7 dc7 pm7 cd7 ct7 oc8 kV8 dc8 pm8 cd8 ct8 oc9 kV9 dc9 pm9 cd9 ct9 oc10 kV10 dc10 pm10 cd10 ct10 oc11 kV11 dc11 pm11 cd11 ct11 oc12 kV12 dc12 pm12 cd12 ct12 oc13 kV13 dc13 pm13 cd13 ct13 oc14 kV14 dc14 pm14 cd14 ct14 oc15 kV15 dc15 pm15 cd15 ct15 oc16 kV16 dc16 pm16 cd16 ct16 oc17 kV17 dc17 pm17 cd17 ct17 oc18 kV18 dc18 pm18 cd18 ct18 : Value}
    (a0 : PySem.W.nsIn K mainGlobals "shortest_lasso" = some (some (.ref f0))) (l0 : K.lookup f0 = some ⟨oc0, od0, .func (PySem.W.fnOf "shortest_lasso" "shortest_lasso" (defArgs s_shortest_lasso) (defBody s_shortest_lasso) (defScope s_shortest_lasso) .none kV0 dc0 pm0 an0 cd0 ct0), sl0⟩) (c0 : PySem.W.codeIn K cd0 "shortest_lasso" = true) (k0 : PySem.W.keepIn K (.ref f0) = true)
    (a1 : PySem.W.nsIn K mainGlobals "shortest_period" = some (some (.ref f1))) (l1 : K.lookup f1 = some ⟨oc1, od1, .func (PySem.W.fnOf "shortest_period" "shortest_period" (defArgs s_shortest_period) (defBody s_shortest_period) (defScope s_shortest_period) .none kV1 dc1 pm1 an1 cd1 ct1), sl1⟩) (c1 : PySem.W.codeIn K cd1 "shortest_period" = true) (k1 : PySem.W.keepIn K (.ref f1) = true)
    (a2 : PySem.W.nsIn K mainGlobals "letter_at" = some (some (.ref f2))) (l2 : K.lookup f2 = some ⟨oc2, od2, .func (PySem.W.fnOf "letter_at" "letter_at" (defArgs s_letter_at) (defBody s_letter_at) (defScope s_letter_at) .none kV2 dc2 pm2 an2 cd2 ct2), sl2⟩) (c2 : PySem.W.codeIn K cd2 "letter_at" = true) (k2 : PySem.W.keepIn K (.ref f2) = true)
    (a3 : PySem.W.nsIn K mainGlobals "relabel" = some (some (.ref f3))) (l3 : K.lookup f3 = some ⟨oc3, od3, .func (PySem.W.fnOf "relabel" "relabel" (defArgs s_relabel) (defBody s_relabel) (defScope s_relabel) .none kV3 dc3 pm3 an3 cd3 ct3), sl3⟩) (c3 : PySem.W.codeIn K cd3 "relabel" = true) (k3 : PySem.W.keepIn K (.ref f3) = true)
    (a4 : PySem.W.nsIn K mainGlobals "check_letters" = some (some (.ref f4))) (l4 : K.lookup f4 = some ⟨oc4, od4, .func (PySem.W.fnOf "check_letters" "check_letters" (defArgs s_check_letters) (defBody s_check_letters) (defScope s_check_letters) .none kV4 dc4 pm4 an4 cd4 ct4), sl4⟩) (c4 : PySem.W.codeIn K cd4 "check_letters" = true) (k4 : PySem.W.keepIn K (.ref f4) = true)
    (a5 : PySem.W.nsIn K mainGlobals "combine" = some (some (.ref f5))) (l5 : K.lookup f5 = some ⟨oc5, od5, .func (PySem.W.fnOf "combine" "combine" (defArgs s_combine) (defBody s_combine) (defScope s_combine) .none kV5 dc5 pm5 an5 cd5 ct5), sl5⟩) (c5 : PySem.W.codeIn K cd5 "combine" = true) (k5 : PySem.W.keepIn K (.ref f5) = true)
    (a6 : PySem.W.nsIn K mainGlobals "_law_cell" = some (some (.ref f6))) (l6 : K.lookup f6 = some ⟨oc6, od6, .func (PySem.W.fnOf "_law_cell" "_law_cell" (defArgs s_law_cell) (defBody s_law_cell) (defScope s_law_cell) .none kV6 dc6 pm6 an6 cd6 ct6), sl6⟩) (c6 : PySem.W.codeIn K cd6 "_law_cell" = true) (k6 : PySem.W.keepIn K (.ref f6) = true)
    (a7 : PySem.W.nsIn K mainGlobals "_law_draws" = some (some (.ref f7))) (l7 : K.lookup f7 = some ⟨oc7, od7, .func (PySem.W.fnOf "_law_draws" "_law_draws" (defArgs s_law_draws) (defBody s_law_draws) (defScope s_law_draws) .none kV7 dc7 pm7 an7 cd7 ct7), sl7⟩) (c7 : PySem.W.codeIn K cd7 "_law_draws" = true) (k7 : PySem.W.keepIn K (.ref f7) = true)
    (a8 : PySem.W.nsIn K mainGlobals "_law_take" = some (some (.ref f8))) (l8 : K.lookup f8 = some ⟨oc8, od8, .func (PySem.W.fnOf "_law_take" "_law_take" (defArgs s_law_take) (defBody s_law_take) (defScope s_law_take) .none kV8 dc8 pm8 an8 cd8 ct8), sl8⟩) (c8 : PySem.W.codeIn K cd8 "_law_take" = true) (k8 : PySem.W.keepIn K (.ref f8) = true)
    (a9 : PySem.W.nsIn K mainGlobals "_law_is_integer" = some (some (.ref f9))) (l9 : K.lookup f9 = some ⟨oc9, od9, .func (PySem.W.fnOf "_law_is_integer" "_law_is_integer" (defArgs s_law_is_integer) (defBody s_law_is_integer) (defScope s_law_is_integer) .none kV9 dc9 pm9 an9 cd9 ct9), sl9⟩) (c9 : PySem.W.codeIn K cd9 "_law_is_integer" = true) (k9 : PySem.W.keepIn K (.ref f9) = true)
    (a10 : PySem.W.nsIn K mainGlobals "_law_integers" = some (some (.ref f10))) (l10 : K.lookup f10 = some ⟨oc10, od10, .func (PySem.W.fnOf "_law_integers" "_law_integers" (defArgs s_law_integers) (defBody s_law_integers) (defScope s_law_integers) .none kV10 dc10 pm10 an10 cd10 ct10), sl10⟩) (c10 : PySem.W.codeIn K cd10 "_law_integers" = true) (k10 : PySem.W.keepIn K (.ref f10) = true)
    (a11 : PySem.W.nsIn K mainGlobals "_law_normal" = some (some (.ref f11))) (l11 : K.lookup f11 = some ⟨oc11, od11, .func (PySem.W.fnOf "_law_normal" "_law_normal" (defArgs s_law_normal) (defBody s_law_normal) (defScope s_law_normal) .none kV11 dc11 pm11 an11 cd11 ct11), sl11⟩) (c11 : PySem.W.codeIn K cd11 "_law_normal" = true) (k11 : PySem.W.keepIn K (.ref f11) = true)
    (a12 : PySem.W.nsIn K mainGlobals "_law_is_lasso" = some (some (.ref f12))) (l12 : K.lookup f12 = some ⟨oc12, od12, .func (PySem.W.fnOf "_law_is_lasso" "_law_is_lasso" (defArgs s_law_is_lasso) (defBody s_law_is_lasso) (defScope s_law_is_lasso) .none kV12 dc12 pm12 an12 cd12 ct12), sl12⟩) (c12 : PySem.W.codeIn K cd12 "_law_is_lasso" = true) (k12 : PySem.W.keepIn K (.ref f12) = true)
    (a13 : PySem.W.nsIn K mainGlobals "_law_at" = some (some (.ref f13))) (l13 : K.lookup f13 = some ⟨oc13, od13, .func (PySem.W.fnOf "_law_at" "_law_at" (defArgs s_law_at) (defBody s_law_at) (defScope s_law_at) .none kV13 dc13 pm13 an13 cd13 ct13), sl13⟩) (c13 : PySem.W.codeIn K cd13 "_law_at" = true) (k13 : PySem.W.keepIn K (.ref f13) = true)
    (a14 : PySem.W.nsIn K mainGlobals "_law_same" = some (some (.ref f14))) (l14 : K.lookup f14 = some ⟨oc14, od14, .func (PySem.W.fnOf "_law_same" "_law_same" (defArgs s_law_same) (defBody s_law_same) (defScope s_law_same) .none kV14 dc14 pm14 an14 cd14 ct14), sl14⟩) (c14 : PySem.W.codeIn K cd14 "_law_same" = true) (k14 : PySem.W.keepIn K (.ref f14) = true)
    (a15 : PySem.W.nsIn K mainGlobals "_law_lasso" = some (some (.ref f15))) (l15 : K.lookup f15 = some ⟨oc15, od15, .func (PySem.W.fnOf "_law_lasso" "_law_lasso" (defArgs s_law_lasso) (defBody s_law_lasso) (defScope s_law_lasso) .none kV15 dc15 pm15 an15 cd15 ct15), sl15⟩) (c15 : PySem.W.codeIn K cd15 "_law_lasso" = true) (k15 : PySem.W.keepIn K (.ref f15) = true)
    (a16 : PySem.W.nsIn K mainGlobals "_law_joint" = some (some (.ref f16))) (l16 : K.lookup f16 = some ⟨oc16, od16, .func (PySem.W.fnOf "_law_joint" "_law_joint" (defArgs s_law_joint) (defBody s_law_joint) (defScope s_law_joint) .none kV16 dc16 pm16 an16 cd16 ct16), sl16⟩) (c16 : PySem.W.codeIn K cd16 "_law_joint" = true) (k16 : PySem.W.keepIn K (.ref f16) = true)
    (a17 : PySem.W.nsIn K mainGlobals "_law_outcome" = some (some (.ref f17))) (l17 : K.lookup f17 = some ⟨oc17, od17, .func (PySem.W.fnOf "_law_outcome" "_law_outcome" (defArgs s_law_outcome) (defBody s_law_outcome) (defScope s_law_outcome) .none kV17 dc17 pm17 an17 cd17 ct17), sl17⟩) (c17 : PySem.W.codeIn K cd17 "_law_outcome" = true) (k17 : PySem.W.keepIn K (.ref f17) = true)
    (a18 : PySem.W.nsIn K mainGlobals "law" = some (some (.ref f18))) (l18 : K.lookup f18 = some ⟨oc18, od18, .func (PySem.W.fnOf "law" "law" (defArgs s_law) (defBody s_law) (defScope s_law) .none kV18 dc18 pm18 an18 cd18 ct18), sl18⟩) (c18 : PySem.W.codeIn K cd18 "law" = true) (k18 : PySem.W.keepIn K (.ref f18) = true)
    (z0 : PySem.W.nsIn K mainGlobals "bool" = some none) (z1 : PySem.W.nsIn K mainGlobals "int" = some none) (z2 : PySem.W.nsIn K mainGlobals "isinstance" = some none) (z3 : PySem.W.nsIn K mainGlobals "len" = some none) (z4 : PySem.W.nsIn K mainGlobals "list" = some none) (z5 : PySem.W.nsIn K mainGlobals "max" = some none) (z6 : PySem.W.nsIn K mainGlobals "range" = some none) (z7 : PySem.W.nsIn K mainGlobals "tuple" = some none) (xa : PySem.W.nsIn K mainGlobals "InvalidLetter" = some (some (.ref cL))) (xb : PySem.W.excIn K cL [.type "ValueError", .type "Exception", .type "BaseException", .type "object"] "ValueError.__new__" = true) (xc : PySem.W.keepIn K (.ref cL) = true) (xd : PySem.W.typeIn K (.ref cL) = some (.type "type")) (xe : PySem.W.subIn K (.ref cL) (.ref cL) = some true) (xf : PySem.W.findIn K (.ref cL) "__getattribute__" = some (some (.builtin "BaseException.__getattribute__"))) (xg : PySem.W.findIn K (.ref cL) "__getattr__" = some none) (xh : PySem.W.subIn K (.ref cL) (.type "BaseException") = some true) (xi : PySem.W.hasDictIn K cL = true) (xj : PySem.W.findIn K (.ref cL) "__class__" = some (some (.builtin "object.__class__"))) (xk : PySem.W.specialIn K (.builtin "object.__class__") "__get__" = some (some (.builtin "getset_descriptor.__get__"))) (xl : PySem.W.takesIn K (.builtin "object.__class__") = some true) (xm : PySem.W.mroIn K cL (.type "object") = some true) (xy : PySem.W.nsIn K mainGlobals "lcm" = some (some (.builtin "math.lcm"))) :
    ∃ fd : FuncData, (∀ (s : Shared) (v : Value), BindsTo s fd ⟨[v], []⟩ [("script", v)]) ∧ ∀ base : Heap, K.In base → base.Ns mainGlobals mg → FnOk l.prog w K mg base CX0 5 fa fd ["script"] (spLaw K) := by
  have e := hfa.symm.trans (PySem.W.mg_of X G a18)
  cases e
  have T : Txt K mg := ⟨⟨f0, _, fun_mk (st := s_shortest_lasso) l0 c0 k0, PySem.W.mg_of X G a0, (fun_mk (st := s_shortest_lasso) l0 c0 k0).binds fun _ _ _ _ _ _ us hl => match us, hl with | [_, _], _ => rfl⟩, ⟨f1, _, fun_mk (st := s_shortest_period) l1 c1 k1, PySem.W.mg_of X G a1, (fun_mk (st := s_shortest_period) l1 c1 k1).binds fun _ _ _ _ _ _ us hl => match us, hl with | [_], _ => rfl⟩, ⟨f2, _, fun_mk (st := s_letter_at) l2 c2 k2, PySem.W.mg_of X G a2, (fun_mk (st := s_letter_at) l2 c2 k2).binds fun _ _ _ _ _ _ us hl => match us, hl with | [_, _], _ => rfl⟩, ⟨f3, _, fun_mk (st := s_relabel) l3 c3 k3, PySem.W.mg_of X G a3, (fun_mk (st := s_relabel) l3 c3 k3).binds fun _ _ _ _ _ _ us hl => match us, hl with | [_, _], _ => rfl⟩, ⟨f4, _, fun_mk (st := s_check_letters) l4 c4 k4, PySem.W.mg_of X G a4, (fun_mk (st := s_check_letters) l4 c4 k4).binds fun _ _ _ _ _ _ us hl => match us, hl with | [_, _], _ => rfl⟩, ⟨f5, _, fun_mk (st := s_combine) l5 c5 k5, PySem.W.mg_of X G a5, (fun_mk (st := s_combine) l5 c5 k5).binds fun _ _ _ _ _ _ us hl => match us, hl with | [_, _, _], _ => rfl⟩, ⟨f6, _, fun_mk (st := s_law_cell) l6 c6 k6, PySem.W.mg_of X G a6, (fun_mk (st := s_law_cell) l6 c6 k6).binds fun _ _ _ _ _ _ us hl => match us, hl with | [_, _], _ => rfl⟩, ⟨f7, _, fun_mk (st := s_law_draws) l7 c7 k7, PySem.W.mg_of X G a7, (fun_mk (st := s_law_draws) l7 c7 k7).binds fun _ _ _ _ _ _ us hl => match us, hl with | [_, _], _ => rfl⟩, ⟨f8, _, fun_mk (st := s_law_take) l8 c8 k8, PySem.W.mg_of X G a8, (fun_mk (st := s_law_take) l8 c8 k8).binds fun _ _ _ _ _ _ us hl => match us, hl with | [_, _], _ => rfl⟩, ⟨f9, _, fun_mk (st := s_law_is_integer) l9 c9 k9, PySem.W.mg_of X G a9, (fun_mk (st := s_law_is_integer) l9 c9 k9).binds fun _ _ _ _ _ _ us hl => match us, hl with | [_], _ => rfl⟩, ⟨f10, _, fun_mk (st := s_law_integers) l10 c10 k10, PySem.W.mg_of X G a10, (fun_mk (st := s_law_integers) l10 c10 k10).binds fun _ _ _ _ _ _ us hl => match us, hl with | [_, _, _], _ => rfl⟩, ⟨f11, _, fun_mk (st := s_law_normal) l11 c11 k11, PySem.W.mg_of X G a11, (fun_mk (st := s_law_normal) l11 c11 k11).binds fun _ _ _ _ _ _ us hl => match us, hl with | [_], _ => rfl⟩, ⟨f12, _, fun_mk (st := s_law_is_lasso) l12 c12 k12, PySem.W.mg_of X G a12, (fun_mk (st := s_law_is_lasso) l12 c12 k12).binds fun _ _ _ _ _ _ us hl => match us, hl with | [_, _], _ => rfl⟩, ⟨f13, _, fun_mk (st := s_law_at) l13 c13 k13, PySem.W.mg_of X G a13, (fun_mk (st := s_law_at) l13 c13 k13).binds fun _ _ _ _ _ _ us hl => match us, hl with | [_, _], _ => rfl⟩, ⟨f14, _, fun_mk (st := s_law_same) l14 c14 k14, PySem.W.mg_of X G a14, (fun_mk (st := s_law_same) l14 c14 k14).binds fun _ _ _ _ _ _ us hl => match us, hl with | [_, _], _ => rfl⟩, ⟨f15, _, fun_mk (st := s_law_lasso) l15 c15 k15, PySem.W.mg_of X G a15, (fun_mk (st := s_law_lasso) l15 c15 k15).binds fun _ _ _ _ _ _ us hl => match us, hl with | [_, _, _], _ => rfl⟩, ⟨f16, _, fun_mk (st := s_law_joint) l16 c16 k16, PySem.W.mg_of X G a16, (fun_mk (st := s_law_joint) l16 c16 k16).binds fun _ _ _ _ _ _ us hl => match us, hl with | [_, _, _], _ => rfl⟩, ⟨f17, _, fun_mk (st := s_law_outcome) l17 c17 k17, PySem.W.mg_of X G a17, (fun_mk (st := s_law_outcome) l17 c17 k17).binds fun _ _ _ _ _ _ us hl => match us, hl with | [_, _], _ => rfl⟩, PySem.W.mg_none_of X G z0, PySem.W.mg_none_of X G z1, PySem.W.mg_none_of X G z2, PySem.W.mg_none_of X G z3, PySem.W.mg_none_of X G z4, PySem.W.mg_none_of X G z5, PySem.W.mg_none_of X G z6, PySem.W.mg_none_of X G z7, ⟨cL, ⟨PySem.W.mg_of X G xa, xb, xc, xd, xe, ⟨xf, xg, xh, xi, xj, xk, xl, xm⟩⟩, PySem.W.mg_of X G xy⟩⟩
  exact ⟨_, fun s v => .of_eq rfl, fun base _ _ => ok_law (fun_mk (st := s_law) l18 c18 k18) T⟩
end My
open PySem PySem.W PyProof.Rows
set_option maxHeartbeats 0 in
theorem PySem.Challenge.cw_reactivesynth_k03_relabel_and_combine_holds : PySem.Challenge.rw_reactivesynth_k03_relabel_and_combine.Holds := by
  w_on; o_law; k_head; (case hw => w_witness2)
  k_fill
  refine L2.walk_of (l := PySem.Challenge.rw_reactivesynth_k03_relabel_and_combine) (n := 63) (k := 5) (x := "script") (CX := fun _ => L2.CX0) (sp := fun w => My.spLaw _) rfl (by decide) rfl ⟨rfl, by decide, by decide⟩ (fun w h Y => PySem.W.kIn_of Y) ?F (fun _ _ a ns hl _ hS => ⟨a, ns, rfl, hS, hl, fun _ => rfl⟩) (fun _ _ _ _ _ h => h)
  case F =>
    intro w mg fa h KX G hmg
    refine' My.all_mk KX G hmg ?a0 ?l0 ?c0 ?k0 ?a1 ?l1 ?c1 ?k1 ?a2 ?l2 ?c2 ?k2 ?a3 ?l3 ?c3 ?k3 ?a4 ?l4 ?c4 ?k4 ?a5 ?l5 ?c5 ?k5 ?a6 ?l6 ?c6 ?k6 ?a7 ?l7 ?c7 ?k7 ?a8 ?l8 ?c8 ?k8 ?a9 ?l9 ?c9 ?k9 ?a10 ?l10 ?c10 ?k10 ?a11 ?l11 ?c11 ?k11 ?a12 ?l12 ?c12 ?k12 ?a13 ?l13 ?c13 ?k13 ?a14 ?l14 ?c14 ?k14 ?a15 ?l15 ?c15 ?k15 ?a16 ?l16 ?c16 ?k16 ?a17 ?l17 ?c17 ?k17 ?a18 ?l18 ?c18 ?k18 ?z0 ?z1 ?z2 ?z3 ?z4 ?z5 ?z6 ?z7 ?xa ?xb ?xc ?xd ?xe ?xf ?xg ?xh ?xi ?xj ?xk ?xl ?xm ?xy
    (case a0 => k_is); (case l0 => k_is); (case c0 => k_is); (case k0 => k_is); (case a1 => k_is); (case l1 => k_is); (case c1 => k_is); (case k1 => k_is); (case a2 => k_is); (case l2 => k_is); (case c2 => k_is); (case k2 => k_is); (case a3 => k_is); (case l3 => k_is); (case c3 => k_is); (case k3 => k_is); (case a4 => k_is); (case l4 => k_is); (case c4 => k_is); (case k4 => k_is); (case a5 => k_is); (case l5 => k_is); (case c5 => k_is); (case k5 => k_is); (case a6 => k_is); (case l6 => k_is); (case c6 => k_is); (case k6 => k_is); (case a7 => k_is); (case l7 => k_is); (case c7 => k_is); (case k7 => k_is); (case a8 => k_is); (case l8 => k_is); (case c8 => k_is); (case k8 => k_is); (case a9 => k_is); (case l9 => k_is); (case c9 => k_is); (case k9 => k_is); (case a10 => k_is); (case l10 => k_is); (case c10 => k_is); (case k10 => k_is); (case a11 => k_is); (case l11 => k_is); (case c11 => k_is); (case k11 => k_is); (case a12 => k_is); (case l12 => k_is); (case c12 => k_is); (case k12 => k_is); (case a13 => k_is); (case l13 => k_is); (case c13 => k_is); (case k13 => k_is); (case a14 => k_is); (case l14 => k_is); (case c14 => k_is); (case k14 => k_is); (case a15 => k_is); (case l15 => k_is); (case c15 => k_is); (case k15 => k_is); (case a16 => k_is); (case l16 => k_is); (case c16 => k_is); (case k16 => k_is); (case a17 => k_is); (case l17 => k_is); (case c17 => k_is); (case k17 => k_is); (case a18 => k_is); (case l18 => k_is); (case c18 => k_is); (case k18 => k_is); (case z0 => k_is); (case z1 => k_is); (case z2 => k_is); (case z3 => k_is); (case z4 => k_is); (case z5 => k_is); (case z6 => k_is); (case z7 => k_is); (case xa => first | rfl | k_is); (case xb => first | k_exc | rfl | k_is); (case xc => first | rfl | k_is); (case xd => first | rfl | k_is); (case xe => first | rfl | k_is); (case xf => first | rfl | k_is); (case xg => first | rfl | k_is); (case xh => first | rfl | k_is); (case xi => first | rfl | k_is); (case xj => first | rfl | k_is); (case xk => first | rfl | k_is); (case xl => first | rfl | k_is); (case xm => first | rfl | k_is); (case xy => first | rfl | k_is)
