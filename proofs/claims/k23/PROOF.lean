import PyProof.Rows.All
import Wide.All
import OpenK.AllK
import Wide.FinOn
import HandS.ForMost
import HandS.ForExc
import HandS.ExcIs
import HandS.ExcOwn
import HandS.WordsExc
import HandS.TryMany
import HandS.TryOnly
import HandS.Codes
import HandS.IsInst
import HandS.TupAny
import HandS.TupMul
import HandS.SortKw
import KE.KMinKey
import PyProof.WalksMore
import HandS.Dict
import PySem.Challenge.RW_reactivesynth_k23_accepts_parity
set_option Elab.async false
set_option linter.all false
set_option maxRecDepth 100000
set_option maxHeartbeats 4000000
namespace Wd
/-- m is the length of a proper border of the first k letters -/
def Bd (w : Nat → Int) (k m : Nat) : Prop := m < k ∧ ∀ i, i < m → w i = w (k - m + i)
/-- .. the greatest -/
def Lg (w : Nat → Int) (k m : Nat) : Prop := Bd w k m ∧ ∀ j, Bd w k j → j ≤ m
theorem Bd.zero {w : Nat → Int} {k : Nat} (h : 0 < k) : Bd w k 0 := ⟨h, fun i hi => absurd hi (Nat.not_lt_zero i)⟩
theorem Bd.down {w : Nat → Int} {k m : Nat} (h : Bd w (k + 1) (m + 1)) : Bd w k m ∧ w m = w k := by
  obtain ⟨h1, h2⟩ := h
  refine ⟨⟨by omega, fun i hi => ?_⟩, ?_⟩
  · have := h2 i (by omega)
    rw [this]
    congr 1
    omega
  · have := h2 m (by omega)
    rw [this]
    congr 1
    omega
theorem Bd.up {w : Nat → Int} {k m : Nat} (h : Bd w k m) (e : w m = w k) : Bd w (k + 1) (m + 1) := by
  obtain ⟨h1, h2⟩ := h
  refine ⟨by omega, fun i hi => ?_⟩
  rcases Nat.lt_or_ge i m with c | c
  · rw [h2 i c]
    congr 1
    omega
  · have : i = m := by omega
    subst this
    rw [e]
    congr 1
    omega
theorem Bd.inner {w : Nat → Int} {k b j : Nat} (h : Bd w k b) (g : Bd w k j) (l : j < b) : Bd w b j := by
  obtain ⟨h1, h2⟩ := h
  obtain ⟨g1, g2⟩ := g
  refine ⟨l, fun i hi => ?_⟩
  rw [g2 i hi, h2 (b - j + i) (by omega)]
  congr 1
  omega
theorem Bd.trans {w : Nat → Int} {k b j : Nat} (h : Bd w k b) (g : Bd w b j) : Bd w k j := by
  obtain ⟨h1, h2⟩ := h
  obtain ⟨g1, g2⟩ := g
  refine ⟨by omega, fun i hi => ?_⟩
  rw [g2 i hi, h2 (b - j + i) (by omega)]
  congr 1
  omega
/-- what the inner loop keeps: b is a border of the first k letters, and no border of the first k + 1 is longer than b + 1 -/
def In (w : Nat → Int) (k b : Nat) : Prop := Bd w k b ∧ ∀ j, Bd w (k + 1) (j + 1) → j ≤ b
theorem In.start {w : Nat → Int} {k b : Nat} (h : Lg w k b) : In w k b := ⟨h.1, fun j hj => h.2 j hj.down.1⟩
theorem In.step {w : Nat → Int} {k b c : Nat} (h : In w k b) (hb : 0 < b) (ne : w k ≠ w b) (g : Lg w b c) : In w k c ∧ c < b := by
  refine ⟨⟨h.1.trans g.1, fun j hj => ?_⟩, g.1.1⟩
  have h1 := h.2 j hj
  obtain ⟨h2, h3⟩ := hj.down
  have : j ≠ b := fun z => ne (by rw [← h3, z])
  exact g.2 j (h.1.inner h2 (by omega))
theorem In.found {w : Nat → Int} {k b : Nat} (h : In w k b) (e : w k = w b) : Lg w (k + 1) (b + 1) := by
  refine ⟨h.1.up e.symm, fun j hj => ?_⟩
  cases j with
  | zero => omega
  | succ j => exact Nat.succ_le_succ (h.2 j hj)
theorem In.none {w : Nat → Int} {k : Nat} (h : In w k 0) (ne : w k ≠ w 0) : Lg w (k + 1) 0 := by
  refine ⟨Bd.zero (by omega), fun j hj => ?_⟩
  cases j with
  | zero => omega
  | succ j =>
    have h1 := h.2 j hj
    have : j = 0 := by omega
    subst this
    exact absurd hj.down.2.symm ne
/-! periods -/
/-- the letters of the word without end that repeats the first n letters -/
def cyc (w : Nat → Int) (n i : Nat) : Int := w (i % n)
def Rp (w : Nat → Int) (n p : Nat) : Prop := ∀ i, cyc w n (i + p) = cyc w n i
theorem Rp.mul {w : Nat → Int} {n p : Nat} (h : Rp w n p) : ∀ k i, cyc w n (i + k * p) = cyc w n i
  | 0, i => by rw [Nat.zero_mul, Nat.add_zero]
  | k + 1, i => by
    rw [Nat.succ_mul, ← Nat.add_assoc, h, h.mul k i]
theorem Rp.mod {w : Nat → Int} {n p i : Nat} (h : Rp w n p) : cyc w n i = cyc w n (i % p) := by
  have := h.mul (i / p) (i % p)
  rw [Nat.mul_comm, Nat.mod_add_div] at this
  exact this
theorem cyc_lt {w : Nat → Int} {n i : Nat} (h : i < n) : cyc w n i = w i := by
  unfold cyc
  rw [Nat.mod_eq_of_lt h]
theorem rp_self (w : Nat → Int) (n : Nat) : Rp w n n := fun i => by
  unfold cyc
  rw [Nat.add_mod_right]
/-- a period of the finite word that divides its length is one of the word without end -/
theorem rp_of {w : Nat → Int} {n p : Nat} (hp : 0 < p) (hd : p ∣ n) (hn : 0 < n) (h : ∀ i, i + p < n → w i = w (i + p)) : Rp w n p := by
  have red : ∀ k i, i + k * p < n → w (i + k * p) = w i := by
    intro k
    induction k with
    | zero => intro i _; rw [Nat.zero_mul, Nat.add_zero]
    | succ k ih =>
      intro i hi
      rw [Nat.succ_mul] at hi ⊢
      rw [← Nat.add_assoc, ← h (i + k * p) (by omega)]
      exact ih i (by omega)
  have toMod : ∀ i, cyc w n i = w (i % p) := by
    intro i
    unfold cyc
    have h1 : i % n < n := Nat.mod_lt _ hn
    have e : i % n % p + (i % n / p) * p = i % n := by
      rw [Nat.mul_comm]
      exact Nat.mod_add_div _ _
    have h2 := red (i % n / p) (i % n % p) (by rw [e]; exact h1)
    rw [e] at h2
    rw [h2, Nat.mod_mod_of_dvd _ hd]
  intro i
  rw [toMod, toMod, Nat.add_mod_right]
/-- the least repetition: r divides n, the word repeats its first r letters, and no shorter one does -/
structure Least (w : Nat → Int) (n r : Nat) : Prop where
  pos : 0 < r
  dvd : r ∣ n
  rp : Rp w n r
  min : ∀ p, 0 < p → p ∣ n → Rp w n p → r ≤ p
theorem least_of {w : Nat → Int} {n b : Nat} (hn : 0 < n) (h : Lg w n b) : Least w n (if n % (n - b) = 0 then n - b else n) := by
  obtain ⟨⟨hb, h1⟩, h2⟩ := h
  have hs : 0 < n - b := by omega
  -- n - b is the least period of the finite word
  have per : ∀ i, i + (n - b) < n → w i = w (i + (n - b)) := fun i hi => by
    have := h1 i (by omega)
    rw [this]
    congr 1
    omega
  have low : ∀ p, 0 < p → p ≤ n → (∀ i, i + p < n → w i = w (i + p)) → n - b ≤ p := fun p hp hpn hq => by
    have := h2 (n - p) ⟨by omega, fun i hi => by
      have := hq i (by omega)
      rw [this]
      congr 1
      omega⟩
    omega
  have fin : ∀ p, Rp w n p → ∀ i, i + p < n → w i = w (i + p) := fun p hp i hi => by
    have := hp i
    rw [cyc_lt hi, cyc_lt (by omega)] at this
    exact this.symm
  -- a shorter repetition makes n - b a repetition
  have key : ∀ p, 0 < p → p ∣ n → p < n → Rp w n p → n % (n - b) = 0 ∧ n - b ≤ p := by
    intro p hp hd hlt hr
    have le := low p hp (by omega) (fin p hr)
    obtain ⟨q, hq⟩ := hd
    have hq2 : 2 ≤ q := by
      rcases Nat.lt_or_ge q 2 with c | c
      · have : q = 0 ∨ q = 1 := by omega
        rcases this with z | z
        · rw [z] at hq; omega
        · rw [z] at hq; omega
      · exact c
    have h2p : 2 * p ≤ n := by
      rw [hq, Nat.mul_comm 2 p]
      exact Nat.mul_le_mul_left p hq2
    have rs : Rp w n (n - b) := by
      intro i
      have e1 : cyc w n (i + (n - b)) = cyc w n (i % p + (n - b)) := by
        have := hr.mul (i / p) (i % p + (n - b))
        rw [← this]
        congr 1
        have := Nat.mod_add_div i p
        rw [Nat.mul_comm (i / p) p]
        omega
      have hm : i % p < p := Nat.mod_lt _ hp
      rw [e1, hr.mod (i := i), cyc_lt (show i % p + (n - b) < n by omega), cyc_lt (show i % p < n by omega)]
      exact (per _ (by omega)).symm
    -- p is a multiple of n - b
    have hmod : p % (n - b) = 0 := by
      rcases Nat.eq_zero_or_pos (p % (n - b)) with z | z
      · exact z
      · have lt : p % (n - b) < n - b := Nat.mod_lt _ hs
        have rm : Rp w n (p % (n - b)) := by
          intro i
          have a := rs.mul (p / (n - b)) (i + p % (n - b))
          have e : i + p % (n - b) + p / (n - b) * (n - b) = i + p := by
            rw [Nat.mul_comm, Nat.add_assoc, Nat.mod_add_div]
          rw [e] at a
          rw [← a]
          exact hr i
        have := low _ z (by omega) (fin _ rm)
        omega
    refine ⟨?_, le⟩
    exact Nat.mod_eq_zero_of_dvd (Nat.dvd_trans (Nat.dvd_of_mod_eq_zero hmod) ⟨q, hq⟩)
  by_cases c : n % (n - b) = 0
  · rw [if_pos c]
    refine ⟨hs, Nat.dvd_of_mod_eq_zero c, rp_of hs (Nat.dvd_of_mod_eq_zero c) hn per, fun p hp hd hr => ?_⟩
    exact low p hp (Nat.le_of_dvd hn hd) (fin p hr)
  · rw [if_neg c]
    refine ⟨hn, Nat.dvd_refl n, rp_self w n, fun p hp hd hr => ?_⟩
    have le := Nat.le_of_dvd hn hd
    rcases Nat.lt_or_ge p n with l | l
    · exact absurd (key p hp hd l hr).1 c
    · exact l
end Wd
/-! ### min(xs, default=d) of a list of ints: own rule -/
namespace MinD
open PySem PySem.W PyProof.Rows
def kwD (d : Value) : List (Str × Value) := [(Str.ofString "default", d)]
theorem nameL : (toString "min" ++ toString ".loop" : String) = "min.loop" := by decide
section
variable {prog : Program} {w : World} {A : Around} {R : Result → Shared → Prop} {I S : Addr} {fp wr : List Addr} {n : Nat} {P : Nat → Value → Prop} {St : Nat → Heap → Prop} {d : Value}
theorem loopD (W : Walks prog w A.in1 I fp wr n P St) (bt : Nat → Nat → Bool) (cm : CmpOf prog w A.in1 .Lt P bt) (nf : S ∉ fp) :
    ∀ (m j : Nat) (u : Shared) (best : Value) (c : Nat), n - (j + 1) = m → j + 1 ≤ n → St (j + 1) u.heap → P (argBest bt j) best →
    u.heap.get? S = some { cls := .type "list", dict := none, data := .seq #[best, best] c, slots := #[] } →
    (∀ v g tk, P (argBest bt (n - 1)) v → (∀ b o, b ∉ wr → b ≠ S → u.heap.get? b = some o → g.get? b = some o) → R (.ok (.ret v)) { u with heap := g, toks := tk }) →
    codeAny (model prog w) A (.builtin "min.loop" ⟨[.ref I, .none, .ref S], kwD d⟩) R u := by
  have nw : S ∉ wr := fun q => nf (W.sub _ q)
  intro m
  induction m with
  | zero =>
    intro j u best c em hj st pb gS out
    have ej : j + 1 = n := by omega
    refine codeAny_builtin PySem.F.entry_min_loop ?_
    rw [Around.under_plainId PySem.F.plain_min_loop _]
    show wpAny _ A.in1 (seqItems? (.ref S) >>= _) _ _ u
    refine wpAny_bind (wpAny_seqItems gS rfl ?_)
    show wpAny _ A.in1 (tryCatch (pyNext (.ref I)) _ >>= _) _ _ u
    refine wpAny_bind (wpAny_tryCatch (W.done u _ _ (ej ▸ st) fun g tk keep => ?_))
    have gS2 := keep S _ nw gS
    show wpAny _ A.in1 (updateSeq S (fun _ => #[]) >>= _) _ _ _
    refine wpAny_bind (wpAny_updateSeq gS2 rfl (wpAny_bind (wpAny_letGo (wpAny_pure ?_))))
    exact out best _ tk (by rw [← ej]; exact pb) fun b o hb hS e => (Heap.get?_update_other _ _ (Ne.symm hS)).trans (keep b o hb e)
  | succ m ih =>
    intro j u best c em hj st pb gS out
    have lt : j + 1 < n := by omega
    refine codeAny_builtin PySem.F.entry_min_loop ?_
    rw [Around.under_plainId PySem.F.plain_min_loop _]
    show wpAny _ A.in1 (seqItems? (.ref S) >>= _) _ _ u
    refine wpAny_bind (wpAny_seqItems gS rfl ?_)
    show wpAny _ A.in1 (tryCatch (pyNext (.ref I)) _ >>= _) _ _ u
    refine wpAny_bind (wpAny_tryCatch (W.item (j + 1) u _ _ lt st fun v g tk pv st2 keep => ?_))
    have gS2 := keep S _ nw gS
    show wpAny _ A.in1 (tryCatch (holding [v, v] (richCompare .Lt v best >>= _)) _ >>= _) _ _ _
    refine wpAny_bind (wpAny_tryCatch (wpAny_holding (wpAny_bind (cm (j + 1) (argBest bt j) v best _ _ _ pv pb ?_))))
    refine wpAny_bind (wpAny_holding (wpAny_truthy_bool (wpAny_bind (wpAny_letGo (wpAny_pure ?_)))))
    cases hb : bt (j + 1) (argBest bt j) with
    | true =>
      simp only [if_true]
      refine wpAny_bind (wpAny_updateSeq gS2 rfl (wpAny_bind (wpAny_letGo ?_)))
      rw [nameL]
      refine wpAny_pure ⟨plainId_quiet PySem.F.plain_min_loop _, ih (j + 1) _ v _ (by omega) lt (W.frame _ _ _ st2 fun b bf o e => ?_) (by simp only [argBest, hb, if_true]; exact pv) (Heap.get?_update_self _ gS2 rfl)
        fun v2 g2 tk2 p2 keep2 => ?_⟩
      · exact (Heap.get?_update_other _ _ (fun q : S = b => nf (by rw [q]; exact bf))).trans e
      · exact out v2 g2 tk2 p2 fun b o hw hS e => keep2 b o hw hS ((Heap.get?_update_other _ _ (Ne.symm hS)).trans (keep b o hw e))
    | false =>
      simp only [Bool.false_eq_true, if_false]
      refine wpAny_bind (wpAny_letGo ?_)
      rw [nameL]
      exact wpAny_pure ⟨plainId_quiet PySem.F.plain_min_loop _, ih (j + 1) _ best c (by omega) lt st2 (by simp only [argBest, hb, Bool.false_eq_true, if_false]; exact pb) gS2 fun v2 g2 tk2 p2 keep2 =>
        out v2 g2 tk2 p2 fun b o hw hS e => keep2 b o hw hS (keep b o hw e)⟩
theorem firstD (W : Walks prog w A.in1 I fp wr n P St) (bt : Nat → Nat → Bool) (cm : CmpOf prog w A.in1 .Lt P bt) (nf : S ∉ fp) {u : Shared} {c : Nat} (st : St 0 u.heap)
    (gS : u.heap.get? S = some { cls := .type "list", dict := none, data := .seq #[] c, slots := #[] })
    (out : ∀ v g tk, (0 < n → P (argBest bt (n - 1)) v) → (n = 0 → v = d) → (∀ b o, b ∉ wr → b ≠ S → u.heap.get? b = some o → g.get? b = some o) → R (.ok (.ret v)) { u with heap := g, toks := tk }) :
    codeAny (model prog w) A (.builtin "min.loop" ⟨[.ref I, .none, .ref S], kwD d⟩) R u := by
  have nw : S ∉ wr := fun q => nf (W.sub _ q)
  refine codeAny_builtin PySem.F.entry_min_loop ?_
  rw [Around.under_plainId PySem.F.plain_min_loop _]
  show wpAny _ A.in1 (seqItems? (.ref S) >>= _) _ _ u
  refine wpAny_bind (wpAny_seqItems gS rfl ?_)
  show wpAny _ A.in1 (tryCatch (pyNext (.ref I)) _ >>= _) _ _ u
  by_cases h0 : 0 < n
  · refine wpAny_bind (wpAny_tryCatch (W.item 0 u _ _ h0 st fun v g tk pv st2 keep => ?_))
    have gS2 := keep S _ nw gS
    show wpAny _ A.in1 (updateSeq S (fun _ => #[v, v]) >>= _) _ _ _
    refine wpAny_bind (wpAny_updateSeq gS2 rfl ?_)
    rw [nameL]
    refine wpAny_pure ⟨plainId_quiet PySem.F.plain_min_loop _, loopD W bt cm nf _ 0 _ v _ rfl h0 (W.frame _ _ _ st2 fun b bf o e => ?_) pv (Heap.get?_update_self _ gS2 rfl) fun v2 g2 tk2 p2 keep2 => ?_⟩
    · exact (Heap.get?_update_other _ _ (fun q : S = b => nf (by rw [q]; exact bf))).trans e
    · exact out v2 g2 tk2 (fun _ => p2) (fun z => by omega) fun b o hw hS e => keep2 b o hw hS ((Heap.get?_update_other _ _ (Ne.symm hS)).trans (keep b o hw e))
  · have e0 : n = 0 := by omega
    refine wpAny_bind (wpAny_tryCatch (W.done u _ _ (by rw [e0]; exact st) fun g tk keep => ?_))
    show wpAny _ A.in1 (rule _ >>= _) _ _ _
    refine wpAny_bind (wpAny_rule (wpAny_pure ?_))
    exact out d g tk (fun z => absurd z h0) (fun _ => rfl) fun b o hw _ e => keep b o hw e
end
section
variable {prog : Program} {w : World} {A : Around} {E : Value → Shared → Prop} {s : Shared} {d : Value}
theorem args_d (a v : Value) : argsOk "min" ⟨[a], kwD v⟩ := by
  unfold argsOk
  kernel_rfl
theorem callD {l : Addr} {xs : Array (Int × Tok)} {Q : Value → Shared → Prop} (hh : A.handled = none) (hl : s.heap.IsList l (intItems xs))
    (h : ∀ v g tk, (0 < xs.size → (intItems xs)[argBest (fun i j => decide (numAt xs i < numAt xs j)) (xs.size - 1)]? = some v) → (xs.size = 0 → v = d) → (∀ b o, s.heap.get? b = some o → g.get? b = some o) → Q v { s with heap := g, toks := tk }) :
    wpAny (model prog w) A (call (.builtin "min") [.ref l] (kwD d)) Q E s := by
  refine kmk_tree PySem.F.kind_min PySem.F.plain_min PySem.F.entry_min (args_d _ _) ?_
  show wpAny _ A.in1 (Builtin.Builtins.bindParams "min" ["key", "default"] 0 ⟨[], kwD d⟩ >>= _) _ _ s
  refine wpAny_bind (wpAny_of_eq (show Builtin.Builtins.bindParams "min" ["key", "default"] 0 ⟨[], kwD d⟩ = pure [none, some d] from rfl) ?_)
  refine wpAny_bind (wpAny_pure ?_)
  refine wpAny_bind (iter_intList hl fun u eu st hfp hlI => ?_)
  subst eu
  refine wpAny_bind (wpAny_newObj_type ?_)
  rw [nameL]
  refine wpAny_pure ⟨plainId_quiet PySem.F.plain_min_loop _, firstD (Walks.list (A := A.in1) hh _ l hlI (intItems xs)) _ (CmpOf.ints_lt (numAt xs) (fun _ _ => intItems_at)) (fun hm => Nat.lt_irrefl _ (hfp _ hm)) ?_ (Heap.get?_push_size _ rfl) fun v g tk p1 p2 keep => ?_⟩
  · exact (Walks.list (prog := prog) (w := w) (A := A.in1) hh _ l hlI (intItems xs)).frame _ _ _ st fun b _ o e => Heap.get?_push_of_some _ e
  · have hsz : (intItems xs).size = xs.size := by simp [intItems]
    refine h v g tk (fun z => by have := p1 (by rw [hsz]; exact z); rw [hsz] at this; exact this) (fun z => p2 (by rw [hsz]; exact z)) (old_kept (l := l) fun b o hb e => ?_)
    exact keep b o hb (Nat.ne_of_lt (Heap.lt_size e)) (Heap.get?_push_of_some _ e)
end
theorem rawD {prog : Program} {w : World} {A : Around} {E : Value → Shared → Prop} {s : Shared} {l : Addr} {its : List Value} {ns : List Int} {z : Int} {t : Tok} {Q : Value → Shared → Prop} (hh : A.handled = none) (hl : s.heap.IsList l its.toArray) (hi : IntsAre its ns)
    (h : ∀ (g : Heap) (tk : Nat) (m : Int) (t' : Tok), (∀ b o, s.heap.get? b = some o → g.get? b = some o) → (ns = [] → m = z) → (ns ≠ [] → m ∈ ns ∧ ∀ y ∈ ns, m ≤ y) → Q (.int m t') { s with heap := g, toks := tk }) :
    wpAny (model prog w) A (call (.builtin "min") [.ref l] (kwD (.int z t))) Q E s := by
  obtain ⟨xs, e⟩ := hi.allInts.items
  have hn : numsOf (intItems xs).toList = ns := by rw [← e]; exact hi.numsOf
  rw [PySem.nums_intItems] at hn
  subst hn
  rw [e] at hl
  refine callD hh hl fun v g tk p1 p2 keep => ?_
  by_cases c : 0 < xs.size
  · obtain ⟨u, rfl⟩ := intItems_at (p1 c)
    obtain ⟨a1, a2⟩ := argBest_lt (numAt xs) (xs.size - 1)
    refine h g tk _ u keep (fun z => ?_) fun _ => ⟨?_, fun y hy => ?_⟩
    · have q : xs.size = 0 := by simpa using congrArg List.length z
      omega
    · rw [PySem.numAt_eq]
      refine PySem.getD_mem ?_
      rw [List.length_map, Array.length_toList]
      exact Nat.lt_of_le_of_lt a1 (by omega)
    · obtain ⟨j, hj, rfl⟩ := PySem.mem_getD hy
      rw [List.length_map, Array.length_toList] at hj
      rw [← PySem.numAt_eq]
      exact a2 j (by omega)
  · rw [p2 (by omega)]
    refine h g tk z t keep (fun _ => rfl) fun q => absurd ?_ q
    have : xs = #[] := Array.eq_empty_of_size_eq_zero (by omega)
    rw [this]
    rfl
end MinD
namespace Bx
open PySem PySem.Spec PyProof.Rows L2
def rMinD (K : PySem.W.Frag) : List V → List V → Hp → VK → Prop := fun xs zs H Q => ∃ (a : Addr) (ns : List Int) (z : Int), xs = [.ref a] ∧ zs = [.int z] ∧ SqL K H a (ns.map V.int) ∧
  ∀ m, (ns = [] → m = z) → (ns ≠ [] → m ∈ ns ∧ ∀ y ∈ ns, m ≤ y) → Q (.int m) H
theorem call_minD {X : Cx} {K : PySem.W.Frag} (h : X.K = K) (hc : X.calm = true) : CallRK X (.builtin "min") ["default"] (rMinD K) := by
  subst h
  intro pins s σ H xs zs us ws Q I r r2 hw
  obtain ⟨a, ns, z, rfl, rfl, hs, q⟩ := hw
  obtain ⟨its, rv, hl, _⟩ := I.list hs
  rw [Vals.ref1 r]
  obtain ⟨u, rfl, ru⟩ := vals1 r2
  obtain ⟨t, rfl⟩ := ru
  exact MinD.rawD (I.ok.hd hc) hl.isList rv.ints fun g tk m t' hk h1 h2 => ⟨.int m, H, I.kept hk, ⟨_, rfl⟩, q m h1 h2⟩
end Bx
namespace Bx
open PySem PySem.Spec PyProof.Rows L2
/-! ### rules over the written part by its name -/
section
variable {X : Cx} {K : PySem.W.Frag}
theorem ix_tupK (h : X.K = K) : IxR X (rIxT K) := h ▸ ix_tup
theorem ix_listK (h : X.K = K) : IxR X (rIxL K) := h ▸ ix_list
theorem ix_seqK (h : X.K = K) : IxR X (rIx K) := h ▸ ix_seq
def rLen (K : PySem.W.Frag) : List V → Hp → VK → Prop := fun xs H Q => ∃ (p : Addr) (ys : List V), xs = [.ref p] ∧ (SqL K H p ys ∨ SqT K H p ys) ∧ Q (.int ys.length) H
theorem call_lenK (h : X.K = K) : CallR X (.builtin "len") (rLen K) := by
  subst h
  exact call_len_seq
def rTupOf (K : PySem.W.Frag) : List V → Hp → VK → Prop := fun xs H Q => ∃ (p : Addr) (ys : List V), xs = [.ref p] ∧ ((SqL K H p ys ∧ ∀ l, H l = none → Q (.ref l) (upd H l (.tup ys))) ∨ (SqT K H p ys ∧ Q (.ref p) H))
theorem call_tuple_ofK (h : X.K = K) : CallR X (.type "tuple") (rTupOf K) := by
  subst h
  exact call_tuple_of
def rLstOf (K : PySem.W.Frag) : List V → Hp → VK → Prop := fun xs H Q => ∃ (p : Addr) (ys : List V), xs = [.ref p] ∧ (SqL K H p ys ∨ SqT K H p ys) ∧ ∀ l, H l = none → Q (.ref l) (upd H l (.lst ys))
theorem call_list_ofK (h : X.K = K) : CallR X (.type "list") (rLstOf K) := by
  subst h
  exact call_list_of
end
end Bx
/-! ### heaps: what one list at d may lose, all else as it was -/
namespace Bx
open PySem PySem.Spec PyProof.Rows L2
def Kp (d : Addr) (H H' : Hp) : Prop := ∀ b o, b ≠ d → H b = some o → H' b = some o
theorem Kp.refl (d : Addr) (H : Hp) : Kp d H H := fun _ _ _ h => h
theorem Kp.trans {d : Addr} {H H1 H2 : Hp} (a : Kp d H H1) (b : Kp d H1 H2) : Kp d H H2 := fun c o n h => b c o n (a c o n h)
theorem Same.kp {d : Addr} {H H' : Hp} (s : Same H H') : Kp d H H' := fun b o _ h => s b o h
theorem Kp.own {d : Addr} {H : Hp} {o : HO} : Kp d H (upd H d o) := fun b _ n h => by rw [upd_ne n]; exact h
theorem same_new {H : Hp} {p : Addr} {o : HO} (h : H p = none) : Same H (upd H p o) := fun b x e => by
  rw [upd_ne (ne_of_none e h)]
  exact e
theorem Kp.new {d p : Addr} {H : Hp} {o : HO} (h : H p = none) : Kp d H (upd H p o) := Same.kp (same_new h)
theorem upd_self {H : Hp} {d : Addr} {o : HO} (h : H d = some o) : upd H d o = H := by
  funext b
  by_cases e : b = d
  · rw [e, upd_same, h]
  · rw [upd_ne e]
/-- a list of ints at d -/
def Ints (H : Hp) (d : Addr) (xs : List Int) : Prop := H d = some (.lst (xs.map V.int))
/-- the draws: some list of ints -/
def Drw (H : Hp) (d : Addr) : Prop := ∃ ds : List Int, H d = some (.lst (ds.map V.int))
theorem Drw.new {H : Hp} {d p : Addr} {o : HO} (h : Drw H d) (n : H p = none) : Drw (upd H p o) d := by
  obtain ⟨ds, e⟩ := h
  exact ⟨ds, same_new n _ _ e⟩
theorem Drw.own {H : Hp} {d : Addr} {ds : List Int} : Drw (upd H d (.lst (ds.map V.int))) d := ⟨ds, upd_same⟩
theorem Drw.same {H H' : Hp} {d : Addr} (h : Drw H d) (s : Same H H') : Drw H' d := by
  obtain ⟨ds, e⟩ := h
  exact ⟨ds, s _ _ e⟩
/-- a tuple of ints -/
def TupI (H : Hp) (a : Addr) (xs : List Int) : Prop := H a = some (.tup (xs.map V.int))
theorem Drw.ne_tup {H : Hp} {d a : Addr} {xs : List V} (h : Drw H d) (e : H a = some (.tup xs)) : a ≠ d := by
  obtain ⟨ds, e2⟩ := h
  exact ne_of e e2 (by intro z; cases z)
/-- a lasso: a pair of tuples of ints -/
def Las (H : Hp) (p : Addr) (h l : List Int) : Prop := ∃ a b, H p = some (.tup [.ref a, .ref b]) ∧ H a = some (.tup (h.map V.int)) ∧ H b = some (.tup (l.map V.int))
theorem Las.keep {H H' : Hp} {d p : Addr} {h l : List Int} (k : Kp d H H') (w : Drw H d) (x : Las H p h l) : Las H' p h l := by
  obtain ⟨a, b, e1, e2, e3⟩ := x
  exact ⟨a, b, k _ _ (w.ne_tup e1) e1, k _ _ (w.ne_tup e2) e2, k _ _ (w.ne_tup e3) e3⟩
theorem Las.same {H H' : Hp} {p : Addr} {h l : List Int} (k : Same H H') (x : Las H p h l) : Las H' p h l := by
  obtain ⟨a, b, e1, e2, e3⟩ := x
  exact ⟨a, b, k _ _ e1, k _ _ e2, k _ _ e3⟩
theorem lenI {xs : List Int} (h : xs.length ≤ 1000000) : (xs.map V.int).length < sizeLine := by
  rw [List.length_map]
  exact Nat.lt_of_le_of_lt h (by decide)
theorem ixN_at {n j : Nat} (h : j < n) : ixN n (j : Int) = some j := by
  unfold ixN
  rw [if_pos (by omega), if_pos (by omega)]
  rfl
theorem set_mapI {xs : List Int} {j : Nat} {v : Int} : (xs.map V.int).set j (.int v) = (xs.set j v).map V.int := by rw [List.map_set]
/-- a list or a tuple of ints -/
def SeqI (H : Hp) (a : Addr) (xs : List Int) : Prop := H a = some (.lst (xs.map V.int)) ∨ H a = some (.tup (xs.map V.int))
theorem SeqI.sq {K : PySem.W.Frag} {H : Hp} {a : Addr} {xs : List Int} (h : SeqI H a xs) : SqL K H a (xs.map V.int) ∨ SqT K H a (xs.map V.int) := by
  rcases h with h | h
  · exact .inl (.of h)
  · exact .inr (.of h)
theorem SeqI.same {H H' : Hp} {a : Addr} {xs : List Int} (k : Same H H') (h : SeqI H a xs) : SeqI H' a xs := by
  rcases h with h | h
  · exact .inl (k _ _ h)
  · exact .inr (k _ _ h)
/-- a pair of lists or tuples of ints -/
def Pr (H : Hp) (p : Addr) (h l : List Int) : Prop := ∃ a b, H p = some (.tup [.ref a, .ref b]) ∧ SeqI H a h ∧ SeqI H b l
theorem Las.pr {H : Hp} {p : Addr} {h l : List Int} (x : Las H p h l) : Pr H p h l := by
  obtain ⟨a, b, e1, e2, e3⟩ := x
  exact ⟨a, b, e1, .inr e2, .inr e3⟩
theorem Pr.same {H H' : Hp} {p : Addr} {h l : List Int} (k : Same H H') (x : Pr H p h l) : Pr H' p h l := by
  obtain ⟨a, b, e1, e2, e3⟩ := x
  exact ⟨a, b, k _ _ e1, e2.same k, e3.same k⟩
/-- an item -/
theorem ixq {K : PySem.W.Frag} {H : Hp} {a : Addr} {xs : List Int} {i : Int} {j : Nat} {v : V} {Q : VK} (h : SeqI H a xs) (ei : i = (j : Int)) (e : (xs.map V.int)[j]? = some v) (q : Q v H) : rIx K (.ref a) (.int i) H Q := by
  subst ei
  rcases h with h | h
  · exact .inl ⟨_, _, _, _, rfl, rfl, .of h, atI_nat e, q⟩
  · exact .inr (.inl ⟨_, _, _, _, rfl, rfl, .of h, atI_nat e, q⟩)
theorem ixq_last {K : PySem.W.Frag} {H : Hp} {a : Addr} {xs : List Int} {z : Int} {Q : VK} (h : SeqI H a xs) (e : xs.getLast? = some z) (q : Q (.int z) H) : rIx K (.ref a) (.int (-1)) H Q := by
  obtain ⟨ys, rfl⟩ := List.getLast?_eq_some_iff.mp e
  have g : atI ((ys ++ [z]).map V.int) (-1) = some (.int z) := by
    rw [List.map_append]
    exact atI_last _ _
  rcases h with h | h
  · exact .inl ⟨_, _, _, _, rfl, rfl, .of h, g, q⟩
  · exact .inr (.inl ⟨_, _, _, _, rfl, rfl, .of h, g, q⟩)
theorem at_map {xs : List Int} {j : Nat} (h : j < xs.length) : (xs.map V.int)[j]? = some (.int (xs.getD j 0)) := by
  rw [List.getElem?_map, List.getElem?_eq_getElem h, List.getD_eq_getElem?_getD, List.getElem?_eq_getElem h]
  rfl
/-! slices -/
section
variable {X : Cx} {K : PySem.W.Frag}
def rSlQ (K : PySem.W.Frag) : V → Option Int → Option Int → Hp → VK → Prop := fun x lo hi H Q => rSlL K x lo hi H Q ∨ rSlA K x lo hi H Q
theorem sl_seqK (h : X.K = K) : SlR X (rSlQ K) := by
  subst h
  exact sl_list.or sl_tupA
theorem sl_tupK (h : X.K = K) : SlR X (rSlA K) := by
  subst h
  exact sl_tupA
theorem sl_listK (h : X.K = K) : SlR X (rSlL K) := by
  subst h
  exact sl_list
theorem op_catK (h : X.K = K) : OpR X (binaryOp .Add) (rCatA K) := by
  subst h
  exact op_catA
theorem op_repTK (h : X.K = K) : OpR X (binaryOp .Mult) (rRepT K) := by
  subst h
  exact op_repT
theorem op_eqDK (h : X.K = K) (hu : X.A.units + 64 < cLine) : OpR X (compareOp .Eq) (rEqD K) := by
  subst h
  exact op_eqD hu
theorem op_neDK (h : X.K = K) (hu : X.A.units + 64 < cLine) : OpR X (compareOp .NotEq) (rNeD K) := by
  subst h
  exact op_neD hu
theorem call_minK (h : X.K = K) (hc : X.calm = true) : CallR X (.builtin "min") (rMin K) := by
  subst h
  exact cr_min hc
theorem call_isiK' (h : X.K = K) : CallR X (.builtin "isinstance") (rIsi K) := by
  subst h
  exact call_isi
end
theorem cut_map {xs : List Int} {lo hi : Option Int} : cutV (xs.map V.int) lo hi = ((xs.drop (HT.sIx xs.length 0 lo)).take (HT.sIx xs.length xs.length hi - HT.sIx xs.length 0 lo)).map V.int := by
  unfold cutV
  rw [List.length_map, List.map_take, List.map_drop]
/-- a slice of a tuple -/
theorem slt {K : PySem.W.Frag} {H : Hp} {a : Addr} {xs ys : List Int} {lo hi : Option Int} {Q : VK} (h : TupI H a xs) (e : (xs.drop (HT.sIx xs.length 0 lo)).take (HT.sIx xs.length xs.length hi - HT.sIx xs.length 0 lo) = ys)
    (q : ∀ (H' : Hp) (p : Addr), Same H H' → TupI H' p ys → Q (.ref p) H') : rSlA K (.ref a) lo hi H Q := by
  subst e
  refine ⟨a, _, rfl, .of h, fun w => ?_, fun _ p hp => q _ p (same_new hp) ?_⟩
  · refine q H a (Same.refl H) ?_
    rw [List.length_map] at w
    rw [w.1, w.2, List.drop_zero, Nat.sub_zero, List.take_length]
    exact h
  · unfold TupI
    rw [upd_same, cut_map]
/-- a slice of a list or tuple -/
theorem slq {K : PySem.W.Frag} {H : Hp} {a : Addr} {xs ys : List Int} {lo hi : Option Int} {Q : VK} (h : SeqI H a xs) (e : (xs.drop (HT.sIx xs.length 0 lo)).take (HT.sIx xs.length xs.length hi - HT.sIx xs.length 0 lo) = ys)
    (q : ∀ (H' : Hp) (p : Addr), Same H H' → SeqI H' p ys → Q (.ref p) H') : rSlQ K (.ref a) lo hi H Q := by
  rcases h with h | h
  · subst e
    refine .inl ⟨a, _, rfl, .of h, fun p hp => q _ p (same_new hp) (.inl ?_)⟩
    rw [upd_same, cut_map]
  · exact .inr (slt h e fun H' p s t => q H' p s (.inr t))
theorem cut_to (xs : List Int) (n : Nat) : (xs.drop (HT.sIx xs.length 0 none)).take (HT.sIx xs.length xs.length (some (n : Int)) - HT.sIx xs.length 0 none) = xs.take n := by
  rw [HT.sIx_none, HT.sIx_nat, List.drop_zero, Nat.sub_zero]
  rcases Nat.le_total n xs.length with c | c
  · rw [Nat.min_eq_left c]
  · rw [Nat.min_eq_right c, List.take_length, List.take_of_length_le c]
theorem cut_from (xs : List Int) {n : Nat} (hn : n ≤ xs.length) : (xs.drop (HT.sIx xs.length 0 (some (n : Int)))).take (HT.sIx xs.length xs.length none - HT.sIx xs.length 0 (some (n : Int))) = xs.drop n := by
  rw [HT.sIx_none, HT.sIx_nat, Nat.min_eq_left hn]
  exact List.take_of_length_le (by rw [List.length_drop]; exact Nat.le_refl _)
theorem slt_to {K : PySem.W.Frag} {H : Hp} {a : Addr} {xs : List Int} {k : Int} {n : Nat} {Q : VK} (h : TupI H a xs) (ek : k = (n : Int))
    (q : ∀ (H' : Hp) (p : Addr), Same H H' → TupI H' p (xs.take n) → Q (.ref p) H') : rSlA K (.ref a) none (some k) H Q := by
  subst ek
  exact slt h (cut_to xs n) q
theorem slt_from {K : PySem.W.Frag} {H : Hp} {a : Addr} {xs : List Int} {k : Int} {n : Nat} {Q : VK} (h : TupI H a xs) (ek : k = (n : Int)) (hn : n ≤ xs.length)
    (q : ∀ (H' : Hp) (p : Addr), Same H H' → TupI H' p (xs.drop n) → Q (.ref p) H') : rSlA K (.ref a) (some k) none H Q := by
  subst ek
  exact slt h (cut_from xs hn) q
theorem slq_to {K : PySem.W.Frag} {H : Hp} {a : Addr} {xs : List Int} {k : Int} {n : Nat} {Q : VK} (h : SeqI H a xs) (ek : k = (n : Int))
    (q : ∀ (H' : Hp) (p : Addr), Same H H' → SeqI H' p (xs.take n) → Q (.ref p) H') : rSlQ K (.ref a) none (some k) H Q := by
  subst ek
  exact slq h (cut_to xs n) q
theorem slq_mid {K : PySem.W.Frag} {H : Hp} {a : Addr} {xs : List Int} {k k2 : Int} {n m : Nat} {Q : VK} (h : SeqI H a xs) (ek : k = (n : Int)) (ek2 : k2 = (m : Int)) (hn : n ≤ xs.length) (hm : m ≤ xs.length)
    (q : ∀ (H' : Hp) (p : Addr), Same H H' → SeqI H' p ((xs.drop n).take (m - n)) → Q (.ref p) H') : rSlQ K (.ref a) (some k) (some k2) H Q := by
  subst ek
  subst ek2
  refine slq h ?_ q
  rw [HT.sIx_nat, HT.sIx_nat, Nat.min_eq_left hn, Nat.min_eq_left hm]
/-- tuple(x) -/
theorem tupq {K : PySem.W.Frag} {H : Hp} {a : Addr} {xs : List Int} {Q : VK} (h : SeqI H a xs) (q : ∀ (H' : Hp) (p : Addr), Same H H' → TupI H' p xs → Q (.ref p) H') : rTupOf K [.ref a] H Q := by
  rcases h with h | h
  · exact ⟨a, _, rfl, .inl ⟨.of h, fun p hp => q _ p (same_new hp) upd_same⟩⟩
  · exact ⟨a, _, rfl, .inr ⟨.of h, q H a (Same.refl H) h⟩⟩
/-- x + y of tuples -/
theorem catq {K : PySem.W.Frag} {H : Hp} {a b : Addr} {xs ys : List Int} {Q : VK} (h : TupI H a xs) (g : TupI H b ys) (hl : xs.length + ys.length ≤ 1000000) (q : ∀ (H' : Hp) (p : Addr), Same H H' → TupI H' p (xs ++ ys) → Q (.ref p) H') : rCatA K (.ref a) (.ref b) H Q := by
  refine ⟨a, b, _, _, rfl, rfl, .of h, .of g, ?_, fun z => ?_, fun _ z => ?_, fun _ _ p hp => ?_⟩
  · rw [List.length_map, List.length_map]
    exact Nat.le_trans hl (by decide)
  · have e : xs = [] := List.map_eq_nil_iff.mp z
    refine q H b (Same.refl H) ?_
    rw [e]
    exact g
  · have e : ys = [] := List.map_eq_nil_iff.mp z
    refine q H a (Same.refl H) ?_
    rw [e, List.append_nil]
    exact h
  · refine q _ p (same_new hp) ?_
    unfold TupI
    rw [upd_same, List.map_append]
/-- a slice of a list -/
theorem sll_from {K : PySem.W.Frag} {H : Hp} {a : Addr} {xs : List Int} {k : Int} {n : Nat} {Q : VK} (h : H a = some (.lst (xs.map V.int))) (ek : k = (n : Int)) (hn : n ≤ xs.length)
    (q : ∀ p, H p = none → Q (.ref p) (upd H p (.lst ((xs.drop n).map V.int)))) : rSlL K (.ref a) (some k) none H Q := by
  subst ek
  refine ⟨a, _, rfl, .of h, fun p hp => ?_⟩
  rw [cut_map, cut_from xs hn]
  exact q p hp
theorem sll_to {K : PySem.W.Frag} {H : Hp} {a : Addr} {xs : List Int} {k : Int} {n : Nat} {Q : VK} (h : H a = some (.lst (xs.map V.int))) (ek : k = (n : Int))
    (q : ∀ p, H p = none → Q (.ref p) (upd H p (.lst ((xs.take n).map V.int)))) : rSlL K (.ref a) none (some k) H Q := by
  subst ek
  refine ⟨a, _, rfl, .of h, fun p hp => ?_⟩
  rw [cut_map, cut_to xs n]
  exact q p hp
/-! == of data -/
theorem eqvAll_int : ∀ xs ys : List Int, PyData.eqvAll (xs.map PyData.int) (ys.map PyData.int) = decide (xs = ys)
  | [], [] => by simp [PyData.eqvAll]
  | [], y :: ys => by simp [PyData.eqvAll]
  | x :: xs, [] => by simp [PyData.eqvAll]
  | x :: xs, y :: ys => by
    rw [List.map_cons, List.map_cons, PyData.eqvAll, eqvAll_int xs ys, PyData.eqv]
    by_cases c : x = y
    · by_cases d : xs = ys
      · simp [c, d]
      · simp [c, d]
    · simp [c]
theorem eqv_tup (xs ys : List Int) : PyData.eqv (.tuple (xs.map PyData.int)) (.tuple (ys.map PyData.int)) = decide (xs = ys) := by
  rw [PyData.eqv]
  exact eqvAll_int xs ys
theorem eqv_lst (xs ys : List Int) : PyData.eqv (.list (xs.map PyData.int)) (.list (ys.map PyData.int)) = decide (xs = ys) := by
  rw [PyData.eqv]
  exact eqvAll_int xs ys
theorem layAll : ∀ xs : List Int, PyData.canLayAll0 (xs.map PyData.int) = true
  | [] => rfl
  | x :: xs => by
    rw [List.map_cons, PyData.canLayAll0, layAll xs]
    rfl
theorem depAll : ∀ xs : List Int, PyData.depthAll (xs.map PyData.int) = 0
  | [] => by simp [PyData.depthAll]
  | x :: xs => by
    rw [List.map_cons, PyData.depthAll, depAll xs]
    simp [PyData.depth]
theorem shaped_tup (xs : List Int) : SeqAt.shaped (.tuple (xs.map PyData.int)) = true := by
  unfold SeqAt.shaped
  rw [PyData.canLay0, layAll, PyData.depth, depAll]
  rfl
theorem shaped_lst (xs : List Int) : SeqAt.shaped (.list (xs.map PyData.int)) = true := by
  unfold SeqAt.shaped
  rw [PyData.canLay0, layAll, PyData.depth, depAll]
  rfl
theorem dpAll_int {K : PySem.W.Frag} {H : Hp} : ∀ xs : List Int, DpAll K H (xs.map V.int) (xs.map PyData.int)
  | [] => .nil
  | x :: xs => .cons (.int x) (dpAll_int xs)
theorem dp_lst {K : PySem.W.Frag} {H : Hp} {a : Addr} {xs : List Int} (h : H a = some (.lst (xs.map V.int))) : Dp K H (.ref a) (.list (xs.map PyData.int)) := .lst (.of h) (dpAll_int xs)
theorem dp_tup {K : PySem.W.Frag} {H : Hp} {a : Addr} {xs : List Int} (h : TupI H a xs) : Dp K H (.ref a) (.tuple (xs.map PyData.int)) := .tup (.of h) (dpAll_int xs)
theorem ite_ne {x y : Int} {A B : Prop} (h1 : x ≠ y → A) (h2 : x = y → B) : if (!decide (V.int x = V.int y)) = true then A else B := by
  by_cases c : x = y
  · rw [c, decide_eq_true rfl]
    exact iteF (h2 c)
  · rw [decide_eq_false (fun z => c (V.int.inj z))]
    exact iteT (h1 c)
theorem ite_eq {x y : Int} {A B : Prop} (h1 : x = y → A) (h2 : x ≠ y → B) : if decide (V.int x = V.int y) = true then A else B := by
  by_cases c : x = y
  · rw [c, decide_eq_true rfl]
    exact iteT (h1 c)
  · rw [decide_eq_false (fun z => c (V.int.inj z))]
    exact iteF (h2 c)
theorem ite_lt {x y : Int} {A B : Prop} (h1 : x < y → A) (h2 : y ≤ x → B) : if decide (x < y) = true then A else B := by
  by_cases c : x < y
  · rw [decide_eq_true c]
    exact iteT (h1 c)
  · rw [decide_eq_false c]
    exact iteF (h2 (by omega))
/-! ### the letters of a word -/
def wat (h l : List Int) (t : Nat) : Int := if t < h.length then h.getD t 0 else l.getD ((t - h.length) % l.length) 0
theorem wat_head {h l : List Int} {t : Nat} (c : t < h.length) : (h.map V.int)[t]? = some (.int (wat h l t)) := by
  unfold wat
  rw [if_pos c, List.getElem?_map, List.getElem?_eq_getElem c, List.getD_eq_getElem?_getD, List.getElem?_eq_getElem c]
  rfl
theorem wat_loop {h l : List Int} {t : Nat} (c : ¬ t < h.length) (n : l ≠ []) : (l.map V.int)[(t - h.length) % l.length]? = some (.int (wat h l t)) := by
  have hl : 0 < l.length := List.length_pos_iff.mpr n
  have c2 : (t - h.length) % l.length < l.length := Nat.mod_lt _ hl
  unfold wat
  rw [if_neg c, List.getElem?_map, List.getElem?_eq_getElem c2, List.getD_eq_getElem?_getD, List.getElem?_eq_getElem c2]
  rfl
theorem ix_mod {t n m : Nat} (h : n ≤ t) : ((t : Int) - (n : Int)) % (m : Int) = (((t - n) % m : Nat) : Int) := by
  have e : ((t : Int) - (n : Int)) = ((t - n : Nat) : Int) := by omega
  rw [e]
  rfl
/-! ### promises of the helpers -/
def spTake : Sp := fun vs H Q _ => ∃ (d : Addr) (n : Int), vs = [.ref d, .int n] ∧ Drw H d ∧ 0 < n ∧
  ∀ (r : Int) (ds : List Int), 0 ≤ r → r < n → Q (.int r) (upd H d (.lst (ds.map V.int)))
def spDraws (K : PySem.W.Frag) : Sp := fun vs H Q _ => ∃ (a : Addr) (ns : List Int) (c : Nat), vs = [.ref a, .int c] ∧ SqL K H a (ns.map V.int) ∧ c ≤ 1000 ∧
  ∀ (H' : Hp) (d : Addr), Same H H' → H d = none → Drw H' d → Q (.ref d) H'
def spAt : Sp := fun vs H Q _ => ∃ (p : Addr) (h l : List Int) (t : Nat), vs = [.ref p, .int t] ∧ Pr H p h l ∧ l ≠ [] ∧ Q (.int (wat h l t)) H
def spLasso : Sp := fun vs H Q _ => ∃ (d : Addr) (n : Int) (m : Nat), vs = [.ref d, .int n, .int m] ∧ Drw H d ∧ 0 < n ∧ 0 < m ∧ m ≤ 1000 ∧
  ∀ (H' : Hp) (p : Addr) (h l : List Int), Kp d H H' → Drw H' d → Las H' p h l → h.length ≤ m → l ≠ [] → l.length ≤ m → (∀ x ∈ h, 0 ≤ x ∧ x < n) → (∀ x ∈ l, 0 ≤ x ∧ x < n) → Q (.ref p) H'
/-- v says where f and g first differ below n -/
def IsDiff (f g : Nat → Int) (n : Nat) (v : V) : Prop := (v = .non ∧ ∀ t < n, f t = g t) ∨ ∃ t, t < n ∧ v = .int (t : Nat) ∧ f t ≠ g t ∧ ∀ s < t, f s = g s
theorem IsDiff.uniq {f g : Nat → Int} {n : Nat} {v u : V} (a : IsDiff f g n v) (b : IsDiff f g n u) : v = u := by
  rcases a with ⟨rfl, a⟩ | ⟨t, ht, rfl, a1, a2⟩
  · rcases b with ⟨rfl, b⟩ | ⟨s, hs, rfl, b1, b2⟩
    · rfl
    · exact absurd (a s hs) b1
  · rcases b with ⟨rfl, b⟩ | ⟨s, hs, rfl, b1, b2⟩
    · exact absurd (b t ht) a1
    · rcases Nat.lt_trichotomy t s with c | c | c
      · exact absurd (b2 t c) a1
      · rw [c]
      · exact absurd (a2 s c) b1
theorem IsDiff.swap {f g : Nat → Int} {n : Nat} {v : V} (a : IsDiff f g n v) : IsDiff g f n v := by
  rcases a with ⟨rfl, a⟩ | ⟨t, ht, rfl, a1, a2⟩
  · exact .inl ⟨rfl, fun t h => (a t h).symm⟩
  · exact .inr ⟨t, ht, rfl, a1.symm, fun s h => (a2 s h).symm⟩
def dfn (h1 l1 h2 l2 : List Int) : Nat := max h1.length h2.length + l1.length + l2.length
def spFd : Sp := fun vs H Q _ => ∃ (p q : Addr) (h1 l1 h2 l2 : List Int), vs = [.ref p, .ref q] ∧ Las H p h1 l1 ∧ Las H q h2 l2 ∧ l1 ≠ [] ∧ l2 ≠ [] ∧ dfn h1 l1 h2 l2 ≤ 1000000 ∧
  ∀ v, IsDiff (wat h1 l1) (wat h2 l2) (dfn h1 l1 h2 l2) v → Q v H
theorem max_if (a b : Nat) : (if ((b : Nat) : Int) > (a : Int) then (b : Int) else (a : Int)) = ((max a b : Nat) : Int) := by
  by_cases h : ((b : Nat) : Int) > (a : Int)
  · rw [if_pos h]
    omega
  · rw [if_neg h]
    omega
/-- the letters of a list, by places -/
def lw (l : List Int) : Nat → Int := fun i => l.getD i 0
def spPeriod : Sp := fun vs H Q _ => ∃ (a : Addr) (l : List Int), vs = [.ref a] ∧ SeqI H a l ∧ l ≠ [] ∧ l.length ≤ 1000000 ∧
  ∀ (H' : Hp) (r : Nat), Same H H' → Wd.Least (lw l) l.length r → Q (.int r) H'
/-- the normal form (h', l') of (h, l) -/
structure Short (h l h' l' : List Int) : Prop where
  ne : l' ≠ []
  same : ∀ t, wat h' l' t = wat h l t
  hl : h'.length ≤ h.length
  ll : l'.length ≤ l.length
  last : h' ≠ [] → h'.getLast? ≠ l'.getLast?
  prim : ∀ p, 0 < p → p < l'.length → p ∣ l'.length → ∃ i, i + p < l'.length ∧ lw l' i ≠ lw l' (i + p)
  memH : ∀ x ∈ h', x ∈ h
  memL : ∀ x ∈ l', x ∈ l
/-- the letter of the repeated word at any whole number of turns from where it begins -/
def bk (l : List Int) (r : Nat) (z : Int) : Int := lw l ((z % (r : Int)).toNat)
def rot (l : List Int) (r c : Nat) : List Int := (l.drop c).take (r - c) ++ l.take c
theorem rot_len {l : List Int} {r c : Nat} (hc : c < r) (hr : r ≤ l.length) : (rot l r c).length = r := by
  unfold rot
  rw [List.length_append, List.length_take, List.length_drop, List.length_take]
  omega
theorem lw_get {l : List Int} {i : Nat} (h : i < l.length) : l[i]? = some (lw l i) := by
  unfold lw
  rw [List.getD_eq_getElem?_getD, List.getElem?_eq_getElem h]
  rfl
theorem lw_of {l : List Int} {i : Nat} {x : Int} (h : l[i]? = some x) : lw l i = x := by
  unfold lw
  rw [List.getD_eq_getElem?_getD, h]
  rfl
theorem rot_at {l : List Int} {r c j : Nat} (hc : c < r) (hr : r ≤ l.length) (hj : j < r) : lw (rot l r c) j = lw l ((j + c) % r) := by
  apply lw_of
  unfold rot
  have e1 : ((l.drop c).take (r - c)).length = r - c := by
    rw [List.length_take, List.length_drop]
    omega
  rcases Nat.lt_or_ge j (r - c) with h | h
  · rw [List.getElem?_append_left (by rw [e1]; exact h), List.getElem?_take, if_pos h, List.getElem?_drop, Nat.mod_eq_of_lt (by omega), Nat.add_comm c j]
    exact lw_get (by omega)
  · rw [List.getElem?_append_right (by rw [e1]; exact h), e1, List.getElem?_take, if_pos (by omega)]
    have e2 : (j + c) % r = j - (r - c) := by
      rw [Nat.mod_eq_sub_mod (by omega), Nat.mod_eq_of_lt (by omega)]
      omega
    rw [e2]
    exact lw_get (by omega)
theorem bk_shift {l : List Int} {r : Nat} {a b z : Int} (h : a = b + r * z) : bk l r a = bk l r b := by
  unfold bk
  rw [h, Int.add_mul_emod_self_left]
theorem bk_nat {l : List Int} {r t : Nat} : bk l r (t : Int) = lw l (t % r) := rfl
theorem least_le {w : Nat → Int} {n r : Nat} (hn : 0 < n) (L : Wd.Least w n r) : r ≤ n := Nat.le_of_dvd hn L.dvd
/-- the letters of l repeated, by the least repetition -/
theorem cyc_least {l : List Int} {r : Nat} (hn : 0 < l.length) (L : Wd.Least (lw l) l.length r) (i : Nat) : lw l (i % l.length) = bk l r (i : Int) := by
  have h1 : Wd.cyc (lw l) l.length i = Wd.cyc (lw l) l.length (i % r) := L.rp.mod
  have h2 : Wd.cyc (lw l) l.length (i % r) = lw l (i % r) := Wd.cyc_lt (Nat.lt_of_lt_of_le (Nat.mod_lt _ L.pos) (least_le hn L))
  rw [bk_nat, ← h2, ← h1]
  rfl
theorem cut_lt {r : Nat} (hr : 0 < r) (z : Int) : (z % (r : Int)).toNat < r := by
  have h1 := Int.emod_nonneg z (show (r : Int) ≠ 0 by omega)
  have h2 := Int.emod_lt_of_pos z (show (0 : Int) < (r : Int) by omega)
  omega
theorem cut_int {r : Nat} (hr : 0 < r) (z : Int) : (((z % (r : Int)).toNat : Nat) : Int) = z - r * (z / r) := by
  have h1 := Int.emod_nonneg z (show (r : Int) ≠ 0 by omega)
  rw [Int.toNat_of_nonneg h1, Int.emod_def]
theorem rot_bk {l : List Int} {r : Nat} (hr0 : 0 < r) (hr : r ≤ l.length) (z : Int) (j : Nat) : lw (rot l r (z % (r : Int)).toNat) (j % r) = bk l r ((j : Int) + z) := by
  rw [rot_at (cut_lt hr0 z) hr (Nat.mod_lt _ hr0), Nat.mod_add_mod]
  have h : bk l r (((j + (z % (r : Int)).toNat : Nat)) : Int) = bk l r ((j : Int) + z) := bk_shift (z := -(z / r)) (by
    rw [Int.natCast_add, cut_int hr0, Int.mul_neg]
    omega)
  rw [← h]
  rfl
theorem short_of {h l : List Int} {r k : Nat} (hne : l ≠ []) (L : Wd.Least (lw l) l.length r) (hk : k ≤ h.length)
    (hB : ∀ t, k ≤ t → t < h.length → lw h t = bk l r ((t : Int) - (h.length : Int))) (hX : k = 0 ∨ lw h (k - 1) ≠ bk l r ((k : Int) - 1 - (h.length : Int))) :
    Short h l (h.take k) (rot l r (((k : Int) - (h.length : Int)) % (r : Int)).toNat) := by
  have hn : 0 < l.length := List.length_pos_iff.mpr hne
  have hr0 := L.pos
  have hr := least_le hn L
  have hlen := rot_len (cut_lt hr0 ((k : Int) - (h.length : Int))) hr
  have htk : (h.take k).length = k := by
    rw [List.length_take]
    omega
  refine ⟨fun z => ?_, fun t => ?_, by rw [htk]; exact hk, by rw [hlen]; exact hr, fun hh => ?_, fun p hp hpl hpd => ?_, fun x hx => List.mem_of_mem_take hx, fun x hx => ?_⟩
  · rw [z] at hlen
    have : (0 : Nat) = r := hlen
    omega
  · unfold wat
    rw [htk, hlen]
    by_cases c : t < k
    · rw [if_pos c, if_pos (by omega), List.getD_eq_getElem?_getD, List.getD_eq_getElem?_getD, List.getElem?_take, if_pos c]
    · rw [if_neg c]
      have e1 := rot_bk (l := l) hr0 hr ((k : Int) - (h.length : Int)) (t - k)
      have e2 : ((t - k : Nat) : Int) + ((k : Int) - (h.length : Int)) = (t : Int) - (h.length : Int) := by omega
      rw [e2] at e1
      show lw _ _ = _
      rw [e1]
      by_cases d : t < h.length
      · rw [if_pos d]
        exact (hB t (by omega) d).symm
      · rw [if_neg d]
        have e3 : (t : Int) - (h.length : Int) = ((t - h.length : Nat) : Int) := by omega
        rw [e3]
        exact (cyc_least hn L _).symm
  · have hk0 : k ≠ 0 := fun z => hh (by rw [z]; rfl)
    rcases hX with z | z
    · exact absurd z hk0
    · rw [List.getLast?_eq_getElem?, List.getLast?_eq_getElem?, htk, hlen]
      rw [List.getElem?_take, if_pos (by omega), lw_get (show k - 1 < h.length by omega), lw_get (show r - 1 < (rot l r _).length by rw [hlen]; omega)]
      intro q
      refine z ?_
      rw [Option.some.inj q]
      have e1 := rot_bk (l := l) hr0 hr ((k : Int) - (h.length : Int)) (r - 1)
      rw [Nat.mod_eq_of_lt (show r - 1 < r by omega)] at e1
      rw [e1]
      exact bk_shift (z := 1) (by omega)
  · rw [hlen] at hpl hpd ⊢
    apply Classical.byContradiction
    intro hno
    have hall : ∀ i, i + p < r → lw (rot l r (((k : Int) - (h.length : Int)) % (r : Int)).toNat) i = lw (rot l r (((k : Int) - (h.length : Int)) % (r : Int)).toNat) (i + p) := fun i hi =>
      Classical.byContradiction fun q => hno ⟨i, hi, q⟩
    have hrp := Wd.rp_of hp hpd hr0 hall
    have key : ∀ i, Wd.cyc (lw l) l.length i = Wd.cyc (lw (rot l r (((k : Int) - (h.length : Int)) % (r : Int)).toNat)) r (i + (r - (((k : Int) - (h.length : Int)) % (r : Int)).toNat)) := by
      intro i
      have hc := cut_lt hr0 ((k : Int) - (h.length : Int))
      have a1 : Wd.cyc (lw l) l.length i = bk l r (i : Int) := cyc_least hn L i
      have a2 := rot_at hc hr (Nat.mod_lt (i + (r - (((k : Int) - (h.length : Int)) % (r : Int)).toNat)) hr0)
      rw [a1]
      show _ = lw _ (_ % r)
      rw [a2, Nat.mod_add_mod, show i + (r - (((k : Int) - (h.length : Int)) % (r : Int)).toNat) + (((k : Int) - (h.length : Int)) % (r : Int)).toNat = i + r by omega, Nat.add_mod_right]
      rfl
    have hR : Wd.Rp (lw l) l.length p := fun i => by
      rw [key, key, Nat.add_right_comm]
      exact hrp _
    have := L.min p hp (Nat.dvd_trans hpd L.dvd) hR
    omega
  · unfold rot at hx
    rcases List.mem_append.mp hx with z | z
    · exact List.mem_of_mem_drop (List.mem_of_mem_take z)
    · exact List.mem_of_mem_take z
theorem rp_mod {w : Nat → Int} {n p q : Nat} (hp : Wd.Rp w n p) (hq : Wd.Rp w n q) : Wd.Rp w n (q % p) := fun i => by
  have a := hp.mul (q / p) (i + q % p)
  rw [Nat.mul_comm, Nat.add_assoc, Nat.mod_add_div] at a
  rw [← a]
  exact hq i
theorem rp_gcd {w : Nat → Int} {n : Nat} (p q : Nat) : Wd.Rp w n p → Wd.Rp w n q → Wd.Rp w n (Nat.gcd p q) := by
  induction p, q using Nat.gcd.induction with
  | H0 q => intro _ hq; rw [Nat.gcd_zero_left]; exact hq
  | H1 p q hp ih => intro h1 h2; rw [Nat.gcd_rec]; exact ih (rp_mod h1 h2) h1
/-- the normal form -/
structure Nrm (h l : List Int) : Prop where
  ne : l ≠ []
  last : h ≠ [] → h.getLast? ≠ l.getLast?
  prim : ∀ p, 0 < p → p < l.length → p ∣ l.length → ∃ i, i + p < l.length ∧ lw l i ≠ lw l (i + p)
theorem Short.nrm {h l h' l' : List Int} (s : Short h l h' l') : Nrm h' l' := ⟨s.ne, s.last, s.prim⟩
theorem Nrm.pos {h l : List Int} (N : Nrm h l) : 0 < l.length := List.length_pos_iff.mpr N.ne
theorem wat_cyc {h l : List Int} {t : Nat} (c : h.length ≤ t) : wat h l t = Wd.cyc (lw l) l.length (t - h.length) := by
  unfold wat
  rw [if_neg (by omega)]
  rfl
/-- every period that the word has from some turn on is a multiple of the loop's length -/
theorem Nrm.dvd {h l : List Int} (N : Nrm h l) {p M : Nat} (hP : ∀ t, M ≤ t → wat h l (t + p) = wat h l t) : l.length ∣ p := by
  have hr := N.pos
  have hRp : Wd.Rp (lw l) l.length p := fun i => by
    have self := Wd.rp_self (lw l) l.length
    have e1 := self.mul M i
    have e2 := self.mul M (i + p)
    have hM : M ≤ M * l.length := Nat.le_mul_of_pos_right M hr
    have q := hP (h.length + (i + M * l.length)) (by omega)
    rw [wat_cyc (by omega), wat_cyc (by omega)] at q
    rw [show h.length + (i + M * l.length) + p - h.length = i + p + M * l.length by omega, show h.length + (i + M * l.length) - h.length = i + M * l.length by omega, e1, e2] at q
    exact q
  have hg := rp_gcd p l.length hRp (Wd.rp_self (lw l) l.length)
  have gd : Nat.gcd p l.length ∣ l.length := Nat.gcd_dvd_right p l.length
  have gp : 0 < Nat.gcd p l.length := Nat.gcd_pos_of_pos_right p hr
  have gl := Nat.le_of_dvd hr gd
  rcases Nat.lt_or_ge (Nat.gcd p l.length) l.length with c | c
  · obtain ⟨i, hi, hne⟩ := N.prim _ gp c gd
    refine absurd ?_ hne
    have := hg i
    rw [Wd.cyc_lt hi, Wd.cyc_lt (by omega)] at this
    exact this.symm
  · have e : Nat.gcd p l.length = l.length := by omega
    rw [← e]
    exact Nat.gcd_dvd_left p l.length
theorem wat_per {h l : List Int} {t : Nat} (c : h.length ≤ t) : wat h l (t + l.length) = wat h l t := by
  rw [wat_cyc c, wat_cyc (by omega), show t + l.length - h.length = (t - h.length) + l.length by omega]
  exact Wd.rp_self (lw l) l.length _
theorem last_at {l : List Int} (n : l ≠ []) : l.getLast? = some (lw l (l.length - 1)) := by
  have := List.length_pos_iff.mpr n
  rw [List.getLast?_eq_getElem?]
  exact lw_get (by omega)
theorem Nrm.head_le {h l g m : List Int} (N : Nrm h l) (hs : ∀ t, wat h l t = wat g m t) (e : l.length = m.length) : h.length ≤ g.length := by
  rcases Nat.lt_or_ge g.length h.length with c | c
  · exfalso
    have hne : h ≠ [] := List.length_pos_iff.mp (by omega)
    refine N.last hne ?_
    rw [last_at hne, last_at N.ne]
    congr 1
    have hp := N.pos
    have a1 : wat h l (h.length - 1) = lw h (h.length - 1) := by
      unfold wat
      rw [if_pos (by omega)]
      rfl
    have a2 : wat h l (h.length - 1 + l.length) = lw l (l.length - 1) := by
      rw [wat_cyc (by omega), show h.length - 1 + l.length - h.length = l.length - 1 by omega, Wd.cyc_lt (by omega)]
    rw [← a1, ← a2, hs, hs, e]
    exact (wat_per (by omega)).symm
  · exact c
theorem Nrm.uniq {h l g m : List Int} (N : Nrm h l) (M : Nrm g m) (hs : ∀ t, wat h l t = wat g m t) : h = g ∧ l = m := by
  have d1 : l.length ∣ m.length := N.dvd (M := g.length) fun t ht => by
    rw [hs, hs]
    exact wat_per ht
  have d2 : m.length ∣ l.length := M.dvd (M := h.length) fun t ht => by
    rw [← hs, ← hs]
    exact wat_per ht
  have e : l.length = m.length := Nat.dvd_antisymm d1 d2
  have e2 : h.length = g.length := Nat.le_antisymm (N.head_le hs e) (M.head_le (fun t => (hs t).symm) e.symm)
  refine ⟨List.ext_getElem e2 fun i h1 h2 => ?_, List.ext_getElem e fun i h1 h2 => ?_⟩
  · have := hs i
    unfold wat at this
    rw [if_pos h1, if_pos h2, List.getD_eq_getElem?_getD, List.getD_eq_getElem?_getD, List.getElem?_eq_getElem h1, List.getElem?_eq_getElem h2] at this
    exact this
  · have := hs (h.length + i)
    rw [wat_cyc (by omega), wat_cyc (by omega), show h.length + i - h.length = i by omega, show h.length + i - g.length = i by omega, Wd.cyc_lt h1, Wd.cyc_lt h2] at this
    have a1 := lw_get h1
    have a2 := lw_get h2
    rw [List.getElem?_eq_getElem h1] at a1
    rw [List.getElem?_eq_getElem h2] at a2
    rw [Option.some.inj a1, Option.some.inj a2, this]
theorem at_last {l : List Int} (n : l ≠ []) : atI (l.map V.int) (-1) = some (.int (lw l (l.length - 1))) := by
  have hp := List.length_pos_iff.mpr n
  have e : l.map V.int = (l.dropLast.map V.int) ++ [.int (l.getLast n)] := by
    rw [← List.map_singleton, ← List.map_append, List.dropLast_concat_getLast]
  rw [e, atI_last]
  have q := last_at n
  rw [List.getLast?_eq_getLast n] at q
  rw [Option.some.inj q]
/-! repetition of a text -/
theorem flat_at {w : List Int} : ∀ (k i : Nat), i < k * w.length → (List.replicate k w).flatten[i]? = w[i % w.length]?
  | 0, i, h => by
    rw [Nat.zero_mul] at h
    exact absurd h (Nat.not_lt_zero i)
  | k + 1, i, h => by
    rw [List.replicate_succ, List.flatten_cons]
    rcases Nat.lt_or_ge i w.length with c | c
    · rw [List.getElem?_append_left c, Nat.mod_eq_of_lt c]
    · rw [List.getElem?_append_right c, flat_at k (i - w.length) (by rw [Nat.succ_mul] at h; omega), ← Nat.mod_eq_sub_mod c]
theorem flat_per {l : List Int} {p k : Nat} (hp : 0 < p) (hpl : p ≤ l.length) (e : l = (List.replicate k (l.take p)).flatten) (hk : k * p = l.length) : ∀ i, i + p < l.length → lw l i = lw l (i + p) := by
  intro i hi
  have el : (l.take p).length = p := by
    rw [List.length_take]
    omega
  have at_ : ∀ j, j < l.length → l[j]? = (l.take p)[j % p]? := fun j hj => by
    have h0 := flat_at (w := l.take p) k j (by rw [el, hk]; exact hj)
    rw [← e, el] at h0
    exact h0
  have h1 := at_ i (by omega)
  have h2 := at_ (i + p) hi
  rw [Nat.add_mod_right, ← h1, lw_get hi, lw_get (show i < l.length by omega)] at h2
  exact (Option.some.inj h2).symm
def spShort : Sp := fun vs H Q _ => ∃ (a b : Addr) (h l : List Int), vs = [.ref a, .ref b] ∧ SeqI H a h ∧ SeqI H b l ∧ l ≠ [] ∧ h.length ≤ 100000 ∧ l.length ≤ 100000 ∧
  ∀ (H' : Hp) (p : Addr) (h' l' : List Int), Same H H' → Las H' p h' l' → Short h l h' l' → Q (.ref p) H'
/-- what suffix hands back -/
def Suf (h l : List Int) (t : Nat) (h' l' : List Int) : Prop := Nrm h' l' ∧ (∀ i, wat h' l' i = wat h l (t + i)) ∧ h'.length ≤ h.length ∧ l'.length ≤ l.length ∧ (∀ x ∈ h', x ∈ h ∨ x ∈ l) ∧ ∀ x ∈ l', x ∈ l
def spSuffix : Sp := fun vs H Q _ => ∃ (p : Addr) (h l : List Int) (t : Nat), vs = [.ref p, .int t] ∧ Las H p h l ∧ l ≠ [] ∧ h.length ≤ 50000 ∧ l.length ≤ 50000 ∧
  ∀ (H' : Hp) (p' : Addr) (h' l' : List Int), Same H H' → Las H' p' h' l' → Suf h l t h' l' → Q (.ref p') H'
def spMake : Sp := fun vs H Q _ => ∃ (a b : Addr) (h l : List Int), vs = [.ref a, .ref b] ∧ H a = some (.lst (h.map V.int)) ∧ H b = some (.lst (l.map V.int)) ∧ l ≠ [] ∧ h.length ≤ 100000 ∧ l.length ≤ 100000 ∧ (∀ x ∈ h, 0 ≤ x) ∧ (∀ x ∈ l, 0 ≤ x) ∧
  ∀ (H' : Hp) (p : Addr) (h' l' : List Int), Same H H' → Las H' p h' l' → Short h l h' l' → Q (.ref p) H'
theorem suf_drop {h l : List Int} {t : Nat} (c : t < h.length) (i : Nat) : wat (h.drop t) l i = wat h l (t + i) := by
  unfold wat
  rw [List.length_drop]
  by_cases d : t + i < h.length
  · rw [if_pos d, if_pos (by omega), List.getD_eq_getElem?_getD, List.getD_eq_getElem?_getD, List.getElem?_drop]
  · rw [if_neg d, if_neg (by omega), show t + i - h.length = i - (h.length - t) by omega]
theorem suf_turn {h l : List Int} {t : Nat} (hn : l ≠ []) (c : h.length ≤ t) (i : Nat) : wat [] (l.drop ((t - h.length) % l.length) ++ l.take ((t - h.length) % l.length)) i = wat h l (t + i) := by
  have hp : 0 < l.length := List.length_pos_iff.mpr hn
  have hc := Nat.mod_lt (t - h.length) hp
  have e : l.drop ((t - h.length) % l.length) ++ l.take ((t - h.length) % l.length) = rot l l.length ((t - h.length) % l.length) := by
    have e3 : (l.drop ((t - h.length) % l.length)).take (l.length - (t - h.length) % l.length) = l.drop ((t - h.length) % l.length) := List.take_of_length_le (by rw [List.length_drop]; exact Nat.le_refl _)
    unfold rot
    rw [e3]
  rw [e, wat_cyc (Nat.zero_le _), wat_cyc (show h.length ≤ t + i by omega), rot_len hc (Nat.le_refl _)]
  show lw _ (_ % _) = lw _ (_ % _)
  rw [rot_at hc (Nat.le_refl _) (Nat.mod_lt _ hp), Nat.mod_add_mod, Nat.add_mod_mod]
  congr 2
  show i - 0 + _ = _
  omega
def spInts : Sp := fun vs H Q _ => ∃ (a : Addr) (xs : List Int) (lo hi : Int), vs = [.ref a, .int lo, .int hi] ∧ TupI H a xs ∧ (∀ x ∈ xs, lo ≤ x ∧ x < hi) ∧ Q (.bl true) H
def spNormal : Sp := fun vs H Q _ => ∃ (p : Addr) (h l : List Int), vs = [.ref p] ∧ Las H p h l ∧ Nrm h l ∧ l.length ≤ 1000 ∧ ∀ H', Same H H' → Q (.bl true) H'
def spIsLasso : Sp := fun vs H Q _ => ∃ (p : Addr) (h l : List Int) (n : Int), vs = [.ref p, .int n] ∧ Las H p h l ∧ Nrm h l ∧ l.length ≤ 1000 ∧ (∀ x ∈ h, 0 ≤ x ∧ x < n) ∧ (∀ x ∈ l, 0 ≤ x ∧ x < n) ∧ ∀ H', Same H H' → Q (.bl true) H'
/-! the same word in other forms -/
theorem wat_mem {h l : List Int} (n : l ≠ []) (t : Nat) : wat h l t ∈ h ∨ wat h l t ∈ l := by
  have hl : 0 < l.length := List.length_pos_iff.mpr n
  unfold wat
  by_cases c : t < h.length
  · rw [if_pos c, List.getD_eq_getElem?_getD, List.getElem?_eq_getElem c]
    exact .inl (List.getElem_mem c)
  · have c2 := Nat.mod_lt (t - h.length) hl
    rw [if_neg c, List.getD_eq_getElem?_getD, List.getElem?_eq_getElem c2]
    exact .inr (List.getElem_mem c2)
theorem range_getD {f : Nat → Int} {n t : Nat} (c : t < n) : ((List.range n).map f).getD t 0 = f t := by
  rw [List.getD_eq_getElem?_getD, List.getElem?_map, List.getElem?_range c]
  rfl
theorem wat_form {h l : List Int} {m k : Nat} (n : l ≠ []) (hk : 0 < k) (t : Nat) :
    wat ((List.range (h.length + m)).map (wat h l)) ((List.range (k * l.length)).map fun t => wat h l (h.length + m + t)) t = wat h l t := by
  have hl : 0 < l.length := List.length_pos_iff.mpr n
  have hkl : 0 < k * l.length := Nat.mul_pos hk hl
  rw [show wat ((List.range (h.length + m)).map (wat h l)) ((List.range (k * l.length)).map fun t => wat h l (h.length + m + t)) t
      = if t < ((List.range (h.length + m)).map (wat h l)).length then ((List.range (h.length + m)).map (wat h l)).getD t 0 else ((List.range (k * l.length)).map fun t => wat h l (h.length + m + t)).getD ((t - ((List.range (h.length + m)).map (wat h l)).length) % ((List.range (k * l.length)).map fun t => wat h l (h.length + m + t)).length) 0 from rfl]
  rw [List.length_map, List.length_range, List.length_map, List.length_range]
  by_cases c : t < h.length + m
  · rw [if_pos c, range_getD c]
  · rw [if_neg c, range_getD (Nat.mod_lt _ hkl), wat_cyc (by omega), wat_cyc (by omega)]
    show lw l (_ % _) = lw l (_ % _)
    congr 1
    have e1 : h.length + m + (t - (h.length + m)) % (k * l.length) - h.length = m + (t - (h.length + m)) % (k * l.length) := by omega
    have e2 : t - h.length = m + (t - (h.length + m)) := by omega
    rw [e1, e2, ← Nat.add_mod_mod, Nat.mod_mod_of_dvd _ ⟨k, Nat.mul_comm k l.length⟩, Nat.add_mod_mod]
theorem wat_front (f h l : List Int) (i : Nat) : wat (f ++ h) l (f.length + i) = wat h l i := by
  unfold wat
  rw [List.length_append]
  by_cases c : i < h.length
  · rw [if_pos c, if_pos (by omega), List.getD_eq_getElem?_getD, List.getD_eq_getElem?_getD, List.getElem?_append_right (by omega), Nat.add_sub_cancel_left]
  · rw [if_neg c, if_neg (by omega), show f.length + i - (f.length + h.length) = i - h.length by omega]
def dLas (h l : List Int) : PyData := .tuple [.tuple (h.map PyData.int), .tuple (l.map PyData.int)]
theorem dp_las {K : PySem.W.Frag} {H : Hp} {p : Addr} {h l : List Int} (x : Las H p h l) : Dp K H (.ref p) (dLas h l) := by
  obtain ⟨a, b, e1, e2, e3⟩ := x
  exact .tup (.of e1) (.cons (dp_tup e2) (.cons (dp_tup e3) .nil))
theorem shaped_las (h l : List Int) : SeqAt.shaped (dLas h l) = true := by
  unfold SeqAt.shaped dLas
  rw [PyData.canLay0, PyData.canLayAll0, PyData.canLayAll0, PyData.canLayAll0, PyData.canLay0, layAll, PyData.canLay0, layAll, PyData.depth, PyData.depthAll, PyData.depthAll, PyData.depthAll, PyData.depth, depAll, PyData.depth, depAll]
  rfl
theorem eqv_las (h l : List Int) : PyData.eqv (dLas h l) (dLas h l) = true := by
  unfold dLas
  rw [PyData.eqv, PyData.eqvAll, PyData.eqvAll, PyData.eqvAll, eqv_tup, eqv_tup]
  simp
def spCell (K : PySem.W.Frag) : Sp := fun vs H Q _ => ∃ (a : Addr) (ns : List Int) (k : Nat), vs = [.ref a, .int k] ∧ SqL K H a (ns.map V.int) ∧ ∀ v : Int, Q (.int v) H
def spNegX (C : Addr) : Sp := fun vs H _ E => ∃ (p : Addr) (t : Int), vs = [.ref p, .int t] ∧ t < 0 ∧ E (.ref C) none H
def spRefuses : Sp := fun vs H Q _ => ∃ (p : Addr) (t : Int), vs = [.ref p, .int t] ∧ t < 0 ∧ Q (.bl true) H
def spSame : Sp := fun vs H Q _ => ∃ (p q : Addr) (h l h2 l2 : List Int), vs = [.ref p, .ref q] ∧ Pr H p h l ∧ Pr H q h2 l2 ∧ l ≠ [] ∧ l2 ≠ [] ∧ dfn h l h2 l2 ≤ 1000000 ∧ (∀ t, wat h l t = wat h2 l2 t) ∧ Q (.bl true) H
def spMakeX (cE cL : Addr) : Sp := fun vs H Q E => ∃ (a b : Addr) (h l : List Int), vs = [.ref a, .ref b] ∧ H a = some (.lst (h.map V.int)) ∧ H b = some (.lst (l.map V.int)) ∧ h.length ≤ 100000 ∧ l.length ≤ 100000 ∧
  (l = [] → E (.ref cE) none H) ∧ (l ≠ [] → (∃ x, (x ∈ h ∨ x ∈ l) ∧ x < 0) → E (.ref cL) none H) ∧
  (l ≠ [] → (∀ x, x ∈ h ∨ x ∈ l → 0 ≤ x) → ∀ (H' : Hp) (p : Addr) (h' l' : List Int), Same H H' → Las H' p h' l' → Short h l h' l' → Q (.ref p) H')
def spOut : Sp := fun vs H Q _ => ∃ (a b : Addr) (h l : List Int), vs = [.ref a, .ref b] ∧ H a = some (.lst (h.map V.int)) ∧ H b = some (.lst (l.map V.int)) ∧ h.length ≤ 100000 ∧ l.length ≤ 100000 ∧
  (l = [] → ∀ (H' : Hp) (p : Addr), Same H H' → H' p = some (.tup [.str "empty", .bl true]) → Q (.ref p) H') ∧
  (l ≠ [] → (∃ x, (x ∈ h ∨ x ∈ l) ∧ x < 0) → ∀ (H' : Hp) (p : Addr), Same H H' → H' p = some (.tup [.str "letter", .bl true]) → Q (.ref p) H') ∧
  (l ≠ [] → (∀ x, x ∈ h ∨ x ∈ l → 0 ≤ x) → ∀ (H' : Hp) (p q : Addr) (h' l' : List Int), Same H H' → H' p = some (.tup [.str "lasso", .ref q]) → Las H' q h' l' → Short h l h' l' → Q (.ref p) H')
theorem neg_cases (h l : List Int) : (∃ x, (x ∈ h ∨ x ∈ l) ∧ x < 0) ∨ ∀ x, x ∈ h ∨ x ∈ l → 0 ≤ x := by
  by_cases c : ∃ x, (x ∈ h ∨ x ∈ l) ∧ x < 0
  · exact .inl c
  · exact .inr fun x hx => by
      rcases Int.lt_or_le x 0 with z | z
      · exact absurd ⟨x, hx, z⟩ c
      · exact z
def spIsInt : Sp := fun vs H Q _ => ∃ (i : Int), vs = [.int i] ∧ Q (.bl true) H
end Bx
/-! ### own errors, two levels below ValueError -/
namespace Bx
open PySem PySem.Spec PyProof.Rows L2
abbrev veB : List Value := [.type "ValueError", .type "Exception", .type "BaseException", .type "object"]
structure ErrC (K : PySem.W.Frag) (mg : Str → Option Value) (x : Str) (C : Addr) : Prop where
  g : mg x = some (.ref C)
  ex : PySem.W.excIn K C veB "ValueError.__new__" = true
  kp : PySem.W.keepIn K (.ref C) = true
  ty : PySem.W.typeIn K (.ref C) = some (.type "type")
  sf : PySem.W.subIn K (.ref C) (.ref C) = some true
  ec : ExcC K C
theorem ErrC.exm {K : PySem.W.Frag} {mg : Str → Option Value} {x : Str} {C : Addr} {cls : Value} {b : Bool} (e : ErrC K mg x C) (h : PySem.W.subIn K cls (.ref C) = some b) : PySem.W.exmOne K cls (.ref C) = some b := PySem.W.exm_ref e.ec.hs e.ec.hd e.ty h
theorem ErrC.me {K : PySem.W.Frag} {mg : Str → Option Value} {x : Str} {C : Addr} (e : ErrC K mg x C) : PySem.W.exmOne K (.ref C) (.ref C) = some true := e.exm e.sf
/-- raise X('..') -/
theorem ErrC.made {X : Cx} {C : Addr} {x m : Str} {j : Nat} {p p2 pos : Pos} (e : ErrC X.K X.mg x C) (hg : Gl X x) (hd : (x == ("__debug__" : Str)) = false := by decide) : PMk X (.Call (.Name x p) [.Constant (.str m) j p2] [] pos) (fun _ H Q => Q (.ref C) none H) :=
  pmk_own PySem.F.excBase_ValueError e.ex e.g e.kp (raises_own e.ec.hs e.ty) hg hd
/-- isinstance(e, c), e the exception that the suite holds -/
def rIsEx (K : PySem.W.Frag) (a : Addr) (cls : Value) (d : Option Addr) : List V → Hp → VK → Prop := fun xs H Q => ∃ D : Addr, cls = .ref D ∧ d = none ∧ ExcC K D ∧ rIsE K D a xs H Q
theorem call_isEx {X : Cx} {K : PySem.W.Frag} {a : Addr} {cls : Value} {d : Option Addr} {oe : Obj} {pn : List (Addr × Obj)} (h : X.K = K) (hz : Zc cls d oe) (hf : ∃ vs, oe.data = .fields vs) : CallR (X.suite a ((a, oe) :: pn)) (.builtin "isinstance") (rIsEx K a cls d) := by
  subst h
  intro pins s σ H xs us Q I r hw
  obtain ⟨D, rfl, rfl, C, hw⟩ := hw
  exact call_isE C hz hf pins s σ H xs us Q I r hw
/-- a def that may raise, by its name -/
structure CalX (P : Program) (w : World) (K : PySem.W.Frag) (mg : Str → Option Value) (base : Heap) (k : Nat) (x : Str) (sp : Sp) : Prop where
  ex : ∃ (f : Addr) (fd : FuncData) (ps : List Str), FnOk P w K mg base (L2.CX P w) k f fd ps sp ∧ mg x = some (.ref f) ∧ PySem.W.keepIn K (.ref f) = true ∧ Binds K fd ps []
theorem pe_cx {X : Cx} {k j : Nat} {x : Str} {sp : Sp} {W : WX} {p pos : Pos} {e : Expr} {es : List Expr} {t : TA} (c : CalX X.prog X.w X.K X.mg X.base k x sp) (hr : Room j X.A) (hk : k ≤ j) (tk : Takes X W) (hg : Gl X x) (ha : PA X (e :: es) t)
    (hdb : (x == ("__debug__" : Str)) = false := by decide) (he : starEach (e :: es) X.env = (false, eval e X.env) :: starEach es X.env := by rfl) (hpl : (backTo pos (starEach es X.env)).any (·.1) = false := by rfl) :
    PE X (.Call (.Name x p) (e :: es) [] pos) (tCallS sp (WE W) t) := by
  obtain ⟨f, fd, ps, F, hm, kp, b⟩ := c.ex
  exact pe_callS F (hr.mono hk) hg hm kp b (fun σ => passAt tk σ) ha hdb he hpl
end Bx
/-! ### several clauses, each with its name: own rule -/
namespace Bx
open PySem PySem.Spec PyProof.Rows L2
/-- what the clauses wish, one after the other: (class, the name's slot, the suite's reading) -/
def wAll (K : PySem.W.Frag) (Wo : WX) (D : Ends) : List (Value × Nat × (Addr → Value → Option Addr → TS)) → WX
  | [] => Wo
  | (c, i, ts) :: r => fun cls d σ H => ∃ b, PySem.W.exmOne K cls c = some b ∧
    (b = true → ∀ a, H a = none → ts a cls d { nx := fun σ' H' => D.nx (σ'.set i none) H', rt := D.rt, bk := fun σ' H' => D.bk (σ'.set i none) H', ct := fun σ' H' => D.ct (σ'.set i none) H' } (σ.set i (some (.ref a))) H) ∧
    (b = false → wAll K Wo D r cls d σ H)
inductive Clauses (Y : Cx) : List ExceptHandler → List (Value × Nat × (Addr → Value → Option Addr → TS)) → Prop
  | nil : Clauses Y [] []
  | cons {x n : Str} {c : Value} {i : Nat} {ts : Addr → Value → Option Addr → TS} {b0 : Stmt} {suite : List Stmt} {p p' : Pos} {cs : List ExceptHandler} {l : List (Value × Nat × (Addr → Value → Option Addr → TS))}
      (hc : Names Y x c) (hi : Y.N[i]? = some n) (hl : Y.env.kindOf n = some .local)
      (su : ∀ (a : Addr) (oe : Obj) (cls : Value) (d : Option Addr) (pn : List (Addr × Obj)), Zc cls d oe → (∃ vs, oe.data = .fields vs) → PSs (Y.suite a ((a, oe) :: pn)) (b0 :: suite) (ts a cls d)) (r : Clauses Y cs l) :
      Clauses Y (.ExceptHandler (some (.Name x p)) (some n) (b0 :: suite) p' :: cs) ((c, i, ts) :: l)
theorem ps_try_all {Y : Cx} {body : List Stmt} {c0 : ExceptHandler} {cs : List ExceptHandler} {l : List (Value × Nat × (Addr → Value → Option Addr → TS))} {pos : Pos} {tb : WX → TS} {Wo : WX}
    (ks : Y.stack = Y.env :: Y.outer) (kf : Y.env.frame = some Y.env.locals) (kN : Y.N.Nodup) (tk : Takes Y Wo)
    (kb : ∀ (W : WX) (pn : List (Addr × Obj)) (xe : Value → Shared → Prop), Takes (Y.tr pn xe) W → PassesOwn (model Y.prog Y.w) Y.A Y.env xe → PSs (Y.tr pn xe) body (tb W))
    (kh : Clauses Y (c0 :: cs) l) : PS Y (.Try body (c0 :: cs) [] [] pos) (fun D σ H => tb (wAll Y.K Wo D l) D σ H) := by
  refine ⟨fun pins u σ H D I hw => ?_⟩
  have okY := I.ok
  have fr := okY.frames
  rw [ks] at fr
  refine wpAny_Try_except ?_
  refine wpAny_mono ((kb (wAll Y.K Wo D l) (Y.pn ++ pins) (fun e u1 => wpAny (model Y.prog Y.w) Y.A (noteFrame e Y.env) (fun _ u2 => wpAny (model Y.prog Y.w) Y.A (setFlight e none) (fun _ u3 =>
    wpAny (model Y.prog Y.w) Y.A (handleBy e Y.env (c0 :: cs)) (SP Y pins D) Y.xe u3) Y.xe u2) Y.xe u1) (fun v g xx => ?_) PassesOwn.looking).run [] u σ H D (I.toTry _) hw) (fun f u1 q => ?_) (fun e u1 q => q)
  · obtain ⟨a, B, sI, pins1, σ1, H1, cls, d, rfl, Jt, nb, up, sk, na, os, ag, w⟩ := xx
    have J : Inv Y pins σ1 H1 sI := Jt.ofTry okY
    have sk1 : Sky B (Y.env :: Y.outer) a (Zc cls d) Y.env.locals g.heap := by rw [← ks]; exact sk
    show wpAny (model Y.prog Y.w) Y.A (noteFrame (.ref a) Y.env) _ _ _
    refine Sky.land Zc.steady fr kf sk1 fun g3 f3 u3 => ?_
    have I3 : Inv Y pins σ1 H1 { g with heap := g3 } := J.landed nb f3.1 (up.trans u3) os ag
    obtain ⟨o3, w3, at3, z3, dt3⟩ := f3.there
    have apart : ∀ {t : Heap} {o : Obj} {vs : Array Value}, t.FunFrames B (Y.env :: Y.outer) → t.get? a = some o → o.data = .fields vs → a ∉ frs (Y.env :: Y.outer) := fun {t o vs} ff e dd hm => by
      obtain ⟨_, o2, e2, q2⟩ := ff.mem hm
      rw [e] at e2
      cases e2
      exact q2 _ dd
    have n0 := apart f3.2.2.1 at3 dt3
    have nL : a ≠ Y.env.locals := fun z => n0 (List.mem_filterMap.mpr ⟨Y.env, List.mem_cons_self, by rw [kf, z]⟩)
    have nF : a ∉ Y.fs := fun hm => by
      obtain ⟨e, he, q⟩ := List.mem_filterMap.mp hm
      exact n0 (List.mem_filterMap.mpr ⟨e, List.mem_cons_of_mem _ he, q⟩)
    have T3 := I3.suite at3 dt3 na nL nF
    have all : ∀ {cs2 : List ExceptHandler} {l2 : List (Value × Nat × (Addr → Value → Option Addr → TS))}, Clauses Y cs2 l2 → wAll Y.K Wo D l2 cls d σ1 H1 →
        wpAny (model Y.prog Y.w) Y.A (handleBy (.ref a) Y.env cs2) (SP Y pins D) Y.xe { g with heap := g3 } := by
      intro cs2 l2 hk
      induction hk with
      | nil =>
        intro w
        refine wpAny_handleBy_nil ?_
        obtain ⟨_, _, _, oe, vs, T, oT, t2, he, hz, hd, h1, _⟩ := id f3
        unfold PySem.passOn
        refine wpAny_bind (wpAny_field he hd h1 ?_)
        rw [if_neg (show ¬ ((Value.ref T == Value.none) = true) from by simp)]
        have away : wpAny (model Y.prog Y.w) Y.A (setFlight (.ref a) Y.env.frame) (fun _ u4 => wpAny (model Y.prog Y.w) Y.A (throw (.ref a) : Sem Flow) (SP Y pins D) Y.xe u4) Y.xe { g with heap := g3 } := by
          rw [kf]
          refine HandSPX.setFlight_upZ f3 fun g4 q4 u4 => wpAny_throw (tk _ _ ?_)
          exact ⟨a, B, sI, pins, σ1, H1, cls, d, rfl, J, nb, (up.trans u3).trans u4, .inr (.inr (by rw [ks]; exact q4)), na, os, ag, w⟩
        first
          | exact wpAny_bind (wpAny_pure (wpAny_bind away))
          | exact wpAny_bind away
      | @cons x n c i ts b0 suite p p' cs3 l3 hc hi hl su r ih =>
        intro w
        obtain ⟨b, e1, yes, no⟩ := w
        refine wpAny_handleBy_cons (codeAny_handlers_test ?_) (by intro q; cases q)
        have LT : PySem.W.Looks (model Y.prog Y.w) g3 (typeOf (.ref a)) cls := fun A Q E s k q => wpAny_typeOf_ref (k _ _ at3) (by rw [z3.1]; exact q)
        have LM := PySem.W.exm_one (M := model Y.prog Y.w) (I3.kIn) LT e1
        have test : ∀ {Q : Value → Shared → Prop} {E : Value → Shared → Prop}, Q c { g with heap := g3 } → wpAny (model Y.prog Y.w) (Y.A.mark (some (.ref a))) (eval (.Name x p) Y.env) Q E { g with heap := g3 } := fun {Q E} q => by
          obtain ⟨hg, hdb, hm | ⟨hm, hv, hnn⟩⟩ := hc
          · exact ld_glob (X := Y.suite a ((a, o3) :: (Y.pn ++ pins))) T3 hg hm q hdb
          · exact ld_blt (X := Y.suite a ((a, o3) :: (Y.pn ++ pins))) T3 hg hm hv q hnn hdb
        refine test (LM.here ?_)
        cases b with
        | true =>
          refine codeAny_handlers_suite_as ?_
          refine HandSPX.lands_againZ f3 fun g4 f4 u4 => ?_
          have I4 : Inv Y pins σ1 H1 { g with heap := g4 } := J.landed nb f4.1 ((up.trans u3).trans u4) os ag
          obtain ⟨o4, w4, at4, z4, dt4⟩ := f4.there
          have T4 := I4.suite at4 dt4 na nL nF
          refine store_ok (X := Y.suite a ((a, o4) :: (Y.pn ++ pins))) (v := .ref a) T4 kN hi (.inl hl) rfl (fun u5 T5 => ?_) (.inr hl)
          refine wpAny_mono ((su a o4 cls d (Y.pn ++ pins) z4 ⟨_, dt4⟩).run [] u5 _ H1 _ T5 (yes rfl a na)) (fun f u6 q => ?_) (fun _ _ z => False.elim z)
          have fin : ∀ {σ6 : L2.St} {H6 : Hp} {Q : Shared → Prop}, Inv (Y.suite a ((a, o4) :: (Y.pn ++ pins))) [] σ6 H6 u6 → (∀ u7, Inv Y pins (σ6.set i none) H6 u7 → Q u7) →
              wpAny (model Y.prog Y.w) Y.A (do bindName Y.env n .none; unbindBehindTheSuite Y.env n p') (fun _ u7 => Q u7) Y.xe u6 := fun {σ6 H6 Q} T6 hq => gone_ok (T6.unsuite okY) kN hi hl hq
          cases f with
          | next =>
            obtain ⟨_, _, T6, q6⟩ := q
            exact fin T6 fun _ I7 => ⟨_, _, I7, q6⟩
          | brk =>
            obtain ⟨_, _, T6, q6⟩ := q
            exact fin T6 fun _ I7 => ⟨_, _, I7, q6⟩
          | cont =>
            obtain ⟨_, _, T6, q6⟩ := q
            exact fin T6 fun _ I7 => ⟨_, _, I7, q6⟩
          | ret v =>
            obtain ⟨_, _, _, T6, r6, q6⟩ := q
            exact fin T6 fun _ I7 => ⟨_, _, _, I7, r6, q6⟩
        | false =>
          show wpAny _ Y.A (handleBy (.ref a) Y.env cs3) _ _ _
          exact ih (no rfl)
    exact all kh w
  · cases f with
    | next =>
      obtain ⟨_, _, J1, q1⟩ := q
      exact wpAny_execs_nil ⟨_, _, J1.ofTry okY, q1⟩
    | brk =>
      obtain ⟨_, _, J1, q1⟩ := q
      exact ⟨_, _, J1.ofTry okY, q1⟩
    | cont =>
      obtain ⟨_, _, J1, q1⟩ := q
      exact ⟨_, _, J1.ofTry okY, q1⟩
    | ret v =>
      obtain ⟨_, _, _, J1, r1, q1⟩ := q
      exact ⟨_, _, _, J1.ofTry okY, r1, q1⟩
end Bx
/-! ### max of a tuple of ints, lcm: own rules -/
namespace MaxT
open PySem PySem.W PyProof.Rows
section
variable {prog : Program} {w : World} {A : Around} {E : Value → Shared → Prop} {s : Shared}
theorem walkT {l : Addr} {xs : Array (Int × Tok)} {Q : Value → Shared → Prop} (hh : A.handled = none) (ht : s.heap.IsTuple l (intItems xs)) (hne : 0 < xs.size)
    (h : ∀ v g tk, (intItems xs)[argBest (fun i j => decide (numAt xs i > numAt xs j)) (xs.size - 1)]? = some v → (∀ b o, s.heap.get? b = some o → g.get? b = some o) → Q v { s with heap := g, toks := tk }) :
    wpAny (model prog w) A (call (.builtin "max") [.ref l]) Q E s := by
  have ll : l < s.heap.objs.size := by
    obtain ⟨_, e, _⟩ := ht
    exact Heap.lt_size e
  refine call_max_walk (wpAny_pyIter_tuple ht ?_)
  refine ⟨_, _, _, _, _, _, _, rfl, Walks.tuple (A := A.in1) hh _ l (Nat.ne_of_lt ll) (intItems xs), ⟨⟨_, Heap.get?_push_size _ rfl, rfl, rfl⟩, ht.push _⟩, fun c hc => ?_, by simpa [intItems] using hne, CmpOf.ints_gt (numAt xs) (fun _ _ => intItems_at), fun v g tk hP hk => ?_⟩
  · show c < (s.heap.push _).objs.size
    rw [Heap.size_push]
    rcases List.mem_cons.mp hc with rfl | hc
    · exact Nat.lt_succ_self _
    · rcases List.mem_cons.mp hc with rfl | hc
      · exact Nat.lt_succ_of_lt ll
      · cases hc
  · refine h v g tk (by simpa [intItems] using hP) fun b o e => hk b o (fun hm => ?_) (Heap.get?_push_of_some _ e)
    have e1 : b = s.heap.objs.size := List.mem_singleton.mp hm
    rw [e1] at e
    exact absurd (Heap.lt_size e) (Nat.lt_irrefl _)
theorem rawT {l : Addr} {its : List Value} {ns : List Int} {Q : Value → Shared → Prop} (hh : A.handled = none) (hl : IsTup s.heap l its.toArray) (hi : IntsAre its ns) (hne : ns ≠ [])
    (h : ∀ (g : Heap) (tk : Nat) (m : Int) (t' : Tok), (∀ b o, s.heap.get? b = some o → g.get? b = some o) → m ∈ ns → (∀ y ∈ ns, y ≤ m) → Q (.int m t') { s with heap := g, toks := tk }) :
    wpAny (model prog w) A (call (.builtin "max") [.ref l]) Q E s := by
  obtain ⟨xs, e⟩ := hi.allInts.items
  have hn : numsOf (intItems xs).toList = ns := by rw [← e]; exact hi.numsOf
  rw [PySem.nums_intItems] at hn
  subst hn
  rw [e] at hl
  have c : 0 < xs.size := by
    rcases Nat.eq_zero_or_pos xs.size with z | z
    · refine absurd ?_ hne
      have : xs = #[] := Array.eq_empty_of_size_eq_zero z
      rw [this]
      rfl
    · exact z
  refine walkT hh hl c fun v g tk p1 keep => ?_
  obtain ⟨u, rfl⟩ := intItems_at p1
  obtain ⟨a1, a2⟩ := argBest_gt (numAt xs) (xs.size - 1)
  refine h g tk _ u keep ?_ fun y hy => ?_
  · rw [PySem.numAt_eq]
    refine PySem.getD_mem ?_
    rw [List.length_map, Array.length_toList]
    exact Nat.lt_of_le_of_lt a1 (by omega)
  · obtain ⟨j, hj, rfl⟩ := PySem.mem_getD hy
    rw [List.length_map, Array.length_toList] at hj
    rw [← PySem.numAt_eq]
    exact a2 j (by omega)
end
end MaxT
namespace Bx
open PySem PySem.Spec PyProof.Rows L2
def rMaxT (K : PySem.W.Frag) : List V → Hp → VK → Prop := fun xs H Q => ∃ (a : Addr) (ns : List Int), xs = [.ref a] ∧ SqT K H a (ns.map V.int) ∧ ns ≠ [] ∧ ∀ m, m ∈ ns → (∀ y ∈ ns, y ≤ m) → Q (.int m) H
theorem call_maxT {X : Cx} {K : PySem.W.Frag} (h : X.K = K) (hc : X.calm = true) : CallR X (.builtin "max") (rMaxT K) := by
  subst h
  intro pins s σ H xs us Q I r hw
  obtain ⟨a, ns, rfl, hs, hne, q⟩ := hw
  obtain ⟨its, rv, ht, _⟩ := I.tuple hs
  rw [Vals.ref1 r]
  exact MaxT.rawT (I.ok.hd hc) ht rv.ints hne fun g tk m t' hk h1 h2 => ⟨.int m, H, I.kept hk, ⟨_, rfl⟩, q m h1 h2⟩
theorem call_maxK {X : Cx} {K : PySem.W.Frag} (h : X.K = K) (hc : X.calm = true) : CallR X (.builtin "max") (rMax K) := by
  subst h
  exact cr_max hc
def spCheckX (cL : Addr) : Sp := fun vs H Q E => ∃ (p : Addr) (h l : List Int) (n : Int), vs = [.ref p, .int n] ∧ Las H p h l ∧ l ≠ [] ∧ h.length ≤ 1000 ∧ l.length ≤ 1000 ∧
  ((∃ x, (x ∈ h ∨ x ∈ l) ∧ n ≤ x) → ∀ H', Same H H' → E (.ref cL) none H') ∧ ((∀ x, x ∈ h ∨ x ∈ l → x < n) → ∀ H', Same H H' → Q .non H')
end Bx
/-! ### lists of lists, instances made in a try: own rules -/
namespace Bx
open PySem PySem.Spec PyProof.Rows L2
section
variable {X : Cx}
theorem pi_or {tg iter : Expr} {w1 w2 : TI} (h1 : PI X tg iter w1) (h2 : PI X tg iter w2) : PI X tg iter (fun σ H R => w1 σ H R ∨ w2 σ H R) := ⟨fun pins s σ H R I h => by
  rcases h with h | h
  · exact h1.run pins s σ H R I h
  · exact h2.run pins s σ H R I h⟩
theorem passF {P : Program} {w : World} : Passes (L2.CX P w) X (fun _ _ _ => False) := fun _ _ _ _ _ _ _ h => by
  obtain ⟨_, _, _, _, _, _, _, _, _, _, _, _, z⟩ := h
  exact z.elim
/-- a new instance of an own class whose __init__ may raise -/
structure MakX (P : Program) (w : World) (K : PySem.W.Frag) (mg : Str → Option Value) (base : Heap) (k : Nat) (x : Str) (C : Addr) (sp : Sp) : Prop where
  ex : ∃ (f : Addr) (fd : FuncData) (ps : List Str), Mk K C f ∧ FnOk P w K mg base (L2.CX P w) k f fd ps sp ∧ mg x = some (.ref C) ∧ Binds K fd ps []
def tMakX (C : Addr) (sp : Sp) (E : L2.St → XK) (t : TA) : TE := fun σ H Q => t σ H fun vs H1 => ∀ x dx, H1 x = none → H1 dx = none → dx ≠ x → sp (.ref x :: vs) (upd (upd H1 dx (.own x)) x (.ins C dx [])) (fun v H2 => v = .non ∧ Q (.ref x) H2) (E σ)
theorem made_at {k : Nat} {f C : Addr} {fd : FuncData} {ps : List Str} {sp : Sp} {E : XK} {pins : List (Addr × Obj)} {σ : L2.St} {H : Hp} {u : Shared} {Q : VK} {us : List Value} {vs : List V} (M : Mk X.K C f) (F : FnOk X.prog X.w X.K X.mg X.base (L2.CX X.prog X.w) k f fd ps sp) (hr : Room (k + 1) X.A) (hb : Binds X.K fd ps [])
    (hx : PassesAt (L2.CX X.prog X.w) X σ E) (I : Inv X pins σ H u) (r : Vals vs us)
    (h : ∀ x dx, H x = none → H dx = none → dx ≠ x → sp (.ref x :: vs) (upd (upd H dx (.own x)) x (.ins C dx [])) (fun v H2 => v = .non ∧ Q (.ref x) H2) E) :
    wpAny (model X.prog X.w) X.A (call (.ref C) us) (EP X pins σ Q) X.xe u := by
  have q0 := h (u.heap.objs.size + 1) u.heap.objs.size (I.hok.fresh (Nat.le_succ _)) (I.hok.fresh (Nat.le_refl _)) (Nat.ne_of_lt (Nat.lt_succ_self _))
  have J := Inv.made (C := C) I
  have r2 : Vals (V.ref (u.heap.objs.size + 1) :: vs) (Value.ref (u.heap.objs.size + 1) :: us) := .cons rfl r
  have hl : (Value.ref (u.heap.objs.size + 1) :: us ++ []).length = ps.length := by
    have e := r2.length
    rw [F.len _ _ _ _ q0] at e
    rw [List.append_nil]
    exact e.symm
  refine wpAny_call (make_map (f := f) I.kIn M.makes M.init (beq_iff_eq.mp M.fn) (codeAny_mono (F.run _ X.stack _ _ ⟨Value.ref (u.heap.objs.size + 1) :: us, []⟩ (Value.ref (u.heap.objs.size + 1) :: us) _ _ E (hr.make C us [])
    (J.env0.make C us []) (by have q := hb _ (Value.ref (u.heap.objs.size + 1) :: us) J.kIn hl; rw [List.append_nil] at q; exact q) r2 q0) fun r u' hq => ?_))
  cases r with
  | error e => exact hx pins _ _ e u' J hq
  | ok fl =>
    cases fl with
    | ret v =>
      obtain ⟨y, G, J3, ry, ey, qy⟩ := J.after hq
      subst ey
      exact ⟨ry, ⟨V.ref (u.heap.objs.size + 1), G, J3, rfl, qy⟩⟩
    | next => exact False.elim hq
    | brk => exact False.elim hq
    | cont => exact False.elim hq
theorem pe_makeX {k j : Nat} {C : Addr} {x : Str} {sp : Sp} {W : WX} {p pos : Pos} {e : Expr} {es : List Expr} {t : TA} (c : MakX X.prog X.w X.K X.mg X.base k x C sp) (hr : Room j X.A) (hk : k + 1 ≤ j) (tk : Takes X W) (hg : Gl X x) (ha : PA X (e :: es) t)
    (hdb : (x == ("__debug__" : Str)) = false := by decide) (he : starEach (e :: es) X.env = (false, eval e X.env) :: starEach es X.env := by rfl) (hpl : (backTo pos (starEach es X.env)).any (·.1) = false := by rfl) :
    PE X (.Call (.Name x p) (e :: es) [] pos) (tMakX C sp (WE W) t) := by
  obtain ⟨f, fd, ps, M, F, hm, b⟩ := c.ex
  refine ⟨fun pins u σ H Q I hw => ?_⟩
  refine wpAny_Call_Name_kw (ld_glob I hg hm ?_ hdb)
  refine PySem.W.callWith_K (h₀ := X.base) I.ok.mod.kin M.kp (thn (ha.run pos pins u σ H _ I hw) fun us u1 ⟨vs, H1, I1, rv, qv⟩ => ⟨I1.kIn, ?_⟩) he hpl
  exact made_at M F (hr.mono hk) b (passAt tk σ) I1 rv qv
theorem pe_makeN {k j : Nat} {C : Addr} {x : Str} {sp : Sp} {p pos : Pos} {e : Expr} {es : List Expr} {t : TA} (c : MakX X.prog X.w X.K X.mg X.base k x C sp) (hr : Room j X.A) (hk : k + 1 ≤ j) (hg : Gl X x) (ha : PA X (e :: es) t)
    (hdb : (x == ("__debug__" : Str)) = false := by decide) (he : starEach (e :: es) X.env = (false, eval e X.env) :: starEach es X.env := by rfl) (hpl : (backTo pos (starEach es X.env)).any (·.1) = false := by rfl) :
    PE X (.Call (.Name x p) (e :: es) [] pos) (tMakX C sp (fun _ => fun _ _ _ => False) t) := by
  obtain ⟨f, fd, ps, M, F, hm, b⟩ := c.ex
  refine ⟨fun pins u σ H Q I hw => ?_⟩
  refine wpAny_Call_Name_kw (ld_glob I hg hm ?_ hdb)
  refine PySem.W.callWith_K (h₀ := X.base) I.ok.mod.kin M.kp (thn (ha.run pos pins u σ H _ I hw) fun us u1 ⟨vs, H1, I1, rv, qv⟩ => ⟨I1.kIn, ?_⟩) he hpl
  exact made_at M F (hr.mono hk) b (fun pins G v e v' J q => passF pins σ G v e v' J q) I1 rv qv
end
/-! rows of ints -/
def RowsA (mk : List V → HO) (H : Hp) : List Addr → List (List Int) → Prop
  | [], [] => True
  | a :: as, r :: rs => H a = some (mk (r.map V.int)) ∧ RowsA mk H as rs
  | _, _ => False
def RowsQ (H : Hp) : List Addr → List (List Int) → Prop
  | [], [] => True
  | a :: as, r :: rs => SeqI H a r ∧ RowsQ H as rs
  | _, _ => False
theorem RowsA.keep {mk : List V → HO} {H H' : Hp} : ∀ {as : List Addr} {rs : List (List Int)}, (∀ b o, b ∈ as → H b = some o → H' b = some o) → RowsA mk H as rs → RowsA mk H' as rs
  | [], [], _, _ => True.intro
  | a :: as, r :: rs, k, h => ⟨k a _ List.mem_cons_self h.1, RowsA.keep (fun b o hb => k b o (List.mem_cons_of_mem _ hb)) h.2⟩
  | [], _ :: _, _, h => h.elim
  | _ :: _, [], _, h => h.elim
theorem RowsA.same {mk : List V → HO} {H H' : Hp} {as : List Addr} {rs : List (List Int)} (k : Same H H') (h : RowsA mk H as rs) : RowsA mk H' as rs := h.keep fun b o _ e => k b o e
theorem RowsA.len {mk : List V → HO} {H : Hp} : ∀ {as : List Addr} {rs : List (List Int)}, RowsA mk H as rs → as.length = rs.length
  | [], [], _ => rfl
  | a :: as, r :: rs, h => congrArg (· + 1) h.2.len
  | [], _ :: _, h => h.elim
  | _ :: _, [], h => h.elim
theorem RowsA.snoc {mk : List V → HO} {H : Hp} {a : Addr} {r : List Int} (ha : H a = some (mk (r.map V.int))) : ∀ {as : List Addr} {rs : List (List Int)}, RowsA mk H as rs → RowsA mk H (as ++ [a]) (rs ++ [r])
  | [], [], _ => ⟨ha, True.intro⟩
  | b :: as, q :: rs, h => ⟨h.1, h.2.snoc ha⟩
  | [], _ :: _, h => h.elim
  | _ :: _, [], h => h.elim
theorem RowsA.get {mk : List V → HO} {H : Hp} : ∀ {as : List Addr} {rs : List (List Int)} {i : Nat} {a : Addr}, RowsA mk H as rs → as[i]? = some a → ∃ r, rs[i]? = some r ∧ H a = some (mk (r.map V.int))
  | [], _, _, _, _, e => by simp at e
  | b :: as, [], _, _, h, _ => h.elim
  | b :: as, q :: rs, 0, a, h, e => by
    have : b = a := Option.some.inj e
    subst this
    exact ⟨q, rfl, h.1⟩
  | b :: as, q :: rs, i + 1, a, h, e => RowsA.get (i := i) h.2 e
theorem RowsA.q1 {H : Hp} : ∀ {as : List Addr} {rs : List (List Int)}, RowsA .lst H as rs → RowsQ H as rs
  | [], [], _ => True.intro
  | a :: as, r :: rs, h => ⟨.inl h.1, h.2.q1⟩
  | [], _ :: _, h => h.elim
  | _ :: _, [], h => h.elim
theorem RowsA.q2 {H : Hp} : ∀ {as : List Addr} {rs : List (List Int)}, RowsA .tup H as rs → RowsQ H as rs
  | [], [], _ => True.intro
  | a :: as, r :: rs, h => ⟨.inr h.1, h.2.q2⟩
  | [], _ :: _, h => h.elim
  | _ :: _, [], h => h.elim
theorem RowsQ.same {H H' : Hp} (k : Same H H') : ∀ {as : List Addr} {rs : List (List Int)}, RowsQ H as rs → RowsQ H' as rs
  | [], [], _ => True.intro
  | a :: as, r :: rs, h => ⟨h.1.same k, h.2.same k⟩
  | [], _ :: _, h => h.elim
  | _ :: _, [], h => h.elim
theorem RowsQ.len {H : Hp} : ∀ {as : List Addr} {rs : List (List Int)}, RowsQ H as rs → as.length = rs.length
  | [], [], _ => rfl
  | a :: as, r :: rs, h => congrArg (· + 1) h.2.len
  | [], _ :: _, h => h.elim
  | _ :: _, [], h => h.elim
theorem RowsQ.get {H : Hp} : ∀ {as : List Addr} {rs : List (List Int)} {i : Nat} {a : Addr}, RowsQ H as rs → as[i]? = some a → ∃ r, rs[i]? = some r ∧ SeqI H a r
  | [], _, _, _, _, e => by simp at e
  | b :: as, [], _, _, h, _ => h.elim
  | b :: as, q :: rs, 0, a, h, e => by
    have : b = a := Option.some.inj e
    subst this
    exact ⟨q, rfl, h.1⟩
  | b :: as, q :: rs, i + 1, a, h, e => RowsQ.get (i := i) h.2 e
/-- a list or a tuple of any values -/
def SeqV (H : Hp) (a : Addr) (xs : List V) : Prop := H a = some (.lst xs) ∨ H a = some (.tup xs)
theorem SeqV.same {H H' : Hp} {a : Addr} {xs : List V} (k : Same H H') (h : SeqV H a xs) : SeqV H' a xs := by
  rcases h with h | h
  · exact .inl (k _ _ h)
  · exact .inr (k _ _ h)
theorem SeqV.sq {K : PySem.W.Frag} {H : Hp} {a : Addr} {xs : List V} (h : SeqV H a xs) : SqL K H a xs ∨ SqT K H a xs := by
  rcases h with h | h
  · exact .inl (.of h)
  · exact .inr (.of h)
def iSeq (K : PySem.W.Frag) (te : TE) : TI := fun σ H R => iList K te σ H R ∨ iTup K te σ H R
theorem pi_seq {X : Cx} {K : PySem.W.Frag} {tg e : Expr} {te : TE} (h : X.K = K) (he : PE X e te) : PI X tg e (iSeq K te) := by
  subst h
  exact pi_or (pi_list he) (pi_tup he)
theorem for_seq {K : PySem.W.Frag} {i : Nat} {a : Addr} {xs : List V} {g : TG} {tb : TS} {D : Ends} {σ : L2.St} {H : Hp} (hv : σ[i]? = some (some (.ref a))) (hq : SeqV H a xs) (Pv : Nat → L2.St → Hp → Prop) (h0 : Pv 0 σ H) (hS : ∀ i σ' H', Pv i σ' H' → Same H H')
    (hs : ∀ i x σ H, xs[i]? = some x → Pv i σ H → g x σ H fun σ2 H2 => tb { D with nx := Pv (i + 1), ct := Pv (i + 1), bk := D.nx } σ2 H2) (hd : ∀ σ H, Pv xs.length σ H → D.nx σ H) : tFor (iSeq K (tVar i)) g tb D σ H := by
  rcases hq with h | h
  · exact .inl ⟨_, hv, a, rfl, ⟨_, .of h⟩, for_list Pv h0 (fun i σ' H' _ p => .of (hS i σ' H' p _ _ h)) hs hd⟩
  · exact .inr ⟨_, hv, a, rfl, ⟨_, .of h⟩, for_tup Pv h0 (fun i σ' H' _ p => .of (hS i σ' H' p _ _ h)) hs hd⟩
/-- a list of lists of ints -/
def LL (H : Hp) (r : Addr) (as : List Addr) (rows : List (List Int)) : Prop := H r = some (.lst (as.map V.ref)) ∧ RowsA .lst H as rows
def Vld (L s : Int) (ps : List Int) (rows : List (List Int)) : Prop := 1 ≤ L ∧ rows ≠ [] ∧ ps.length = rows.length ∧ (0 ≤ s ∧ s < (rows.length : Int)) ∧ (∀ r ∈ rows, (r.length : Int) = L ∧ ∀ x ∈ r, 0 ≤ x ∧ x < (rows.length : Int)) ∧ ∀ p ∈ ps, 0 ≤ p
/-- the fields of a parity automaton, as they are stored -/
def pf (L s : Int) (pt rt : Addr) : List (Str × V) := putF "rows" (.ref rt) (putF "priorities" (.ref pt) (putF "start" (.int s) (putF "letters" (.int L) [])))
theorem putF_len (f : Str) (v : V) : ∀ fs : List (Str × V), (putF f v fs).length ≤ fs.length + 1
  | [] => Nat.le_refl _
  | (g, x) :: r => by
    unfold putF
    by_cases c : g = f
    · rw [if_pos c]
      exact Nat.le_succ _
    · rw [if_neg c]
      exact Nat.succ_le_succ (putF_len f v r)
theorem pf_L (L s : Int) (pt rt : Addr) : (pf L s pt rt).lookup ("letters" : Str) = some (.int L) := by
  unfold pf
  rw [lookup_putF, if_neg (by decide +kernel), lookup_putF, if_neg (by decide +kernel), lookup_putF, if_neg (by decide +kernel), lookup_putF, if_pos rfl]
theorem pf_s (L s : Int) (pt rt : Addr) : (pf L s pt rt).lookup ("start" : Str) = some (.int s) := by
  unfold pf
  rw [lookup_putF, if_neg (by decide +kernel), lookup_putF, if_neg (by decide +kernel), lookup_putF, if_pos rfl]
theorem pf_p (L s : Int) (pt rt : Addr) : (pf L s pt rt).lookup ("priorities" : Str) = some (.ref pt) := by
  unfold pf
  rw [lookup_putF, if_neg (by decide +kernel), lookup_putF, if_pos rfl]
theorem pf_r (L s : Int) (pt rt : Addr) : (pf L s pt rt).lookup ("rows" : Str) = some (.ref rt) := by
  unfold pf
  rw [lookup_putF, if_pos rfl]
/-- a parity automaton at x -/
def ParAt (C : Addr) (H : Hp) (x : Addr) (L s : Int) (ps : List Int) (rows : List (List Int)) : Prop := ∃ (dx pt rt : Addr) (as : List Addr), H x = some (.ins C dx (pf L s pt rt)) ∧ TupI H pt ps ∧ H rt = some (.tup (as.map V.ref)) ∧ RowsA .tup H as rows
theorem ParAt.same {C : Addr} {H H' : Hp} {x : Addr} {L s : Int} {ps : List Int} {rows : List (List Int)} (k : Same H H') (h : ParAt C H x L s ps rows) : ParAt C H' x L s ps rows := by
  obtain ⟨dx, pt, rt, as, e1, e2, e3, e4⟩ := h
  exact ⟨dx, pt, rt, as, k _ _ e1, k _ _ e2, k _ _ e3, e4.same k⟩
/-- what the class has -/
structure ParC (K : PySem.W.Frag) (C : Addr) : Prop where
  cl : Cls K C
  nL : NoAttr K C "letters"
  nS : NoAttr K C "start"
  nP : NoAttr K C "priorities"
  nR : NoAttr K C "rows"
def spCheckS (cI : Addr) : Sp := fun vs H Q E => ∃ (z n : Int), vs = [.int z, .int n] ∧ (¬ (0 ≤ z ∧ z < n) → E (.ref cI) none H) ∧ ((0 ≤ z ∧ z < n) → Q .non H)
def spInitP (C cI : Addr) : Sp := fun vs H Q E => ∃ (x p r dx : Addr) (L s : Int) (ps : List Int) (as : List Addr) (rows : List (List Int)), vs = [.ref x, .int L, .int s, .ref p, .ref r] ∧ H x = some (.ins C dx []) ∧ H p = some (.lst (ps.map V.int)) ∧ SeqV H r (as.map V.ref) ∧ RowsQ H as rows ∧
  rows.length ≤ 1000 ∧ ps.length ≤ 1000 ∧ (∀ q ∈ rows, q.length ≤ 1000) ∧ (¬ Vld L s ps rows → E (.ref cI) none H) ∧ (Vld L s ps rows → ∀ H', Kp x H H' → ParAt C H' x L s ps rows → Q .non H')
end Bx
local macro_rules | `(tactic| walk_at "bx") => `(tactic| repeat (first
  | refine ⟨_, rfl, ?_⟩
  | refine ⟨_, _, rfl, rfl, ?_⟩
  | refine ⟨rfl, ?_⟩
  | refine Or.inl ⟨_, rfl, ?_⟩
  | refine ⟨Or.inr ⟨by decide, by decide⟩, ?_⟩
  | refine ⟨Or.inl ⟨by decide, by decide⟩, ?_⟩
  | refine ⟨(show (0 : Int) < _ by decide), ?_⟩
  | refine ⟨⟨by decide, by decide⟩, ?_⟩
  | refine ⟨_, _, rfl, Or.inl (L2.SqL.of (by assumption)), ?_⟩
  | refine ⟨_, _, rfl, Or.inr (L2.SqT.of (by assumption)), ?_⟩
  | refine ⟨Or.inl ⟨rfl, _, L2.SqL.of (by assumption)⟩, ?_⟩
  | refine ⟨_, _, _, rfl, rfl, (by assumption), ?_⟩
  | refine ⟨_, _, rfl, rfl, (by assumption), ?_⟩
  | refine ⟨_, _, _, _, rfl, rfl, L2.SqT.of (by assumption), (by assumption), ?_⟩
  | refine ⟨_, _, _, _, rfl, rfl, L2.SqL.of (by assumption), (by assumption), ?_⟩
  | refine ⟨_, _, rfl, Bx.SeqI.sq (by assumption), ?_⟩
  | refine And.intro (by assumption) ?_))
local macro_rules | `(tactic| walk_at "nl") => `(tactic| ((try unfold L2.tNil); (try unfold L2.tNoPart)))

namespace My
open PySem PySem.Spec PyProof.Rows L2 Bx
def topS (i : Nat) : Stmt := PySem.Challenge.pw_reactivesynth_k23_accepts_parity.main.body.getD i (.Pass ⟨0, 0, 0, 0⟩)
abbrev s_check_letters : Stmt := topS 5
abbrev N_check_letters : List Str := ["lasso", "letters", "head", "loop"]
theorem sc_check_letters : FnScope N_check_letters ["lasso", "letters"] (defScope s_check_letters) := ⟨rfl, rfl, rfl, by decide +kernel, rfl, by decide +kernel, by decide +kernel⟩
abbrev s_check_state : Stmt := topS 8
abbrev N_check_state : List Str := ["state", "count"]
theorem sc_check_state : FnScope N_check_state ["state", "count"] (defScope s_check_state) := ⟨rfl, rfl, rfl, by decide +kernel, rfl, by decide +kernel, by decide +kernel⟩
abbrev s_accepts_parity : Stmt := topS 9
abbrev N_accepts_parity : List Str := ["parity", "lasso", "head", "loop", "state", "letter", "numbers", "greatest", "highest"]
theorem sc_accepts_parity : FnScope N_accepts_parity ["parity", "lasso"] (defScope s_accepts_parity) := ⟨rfl, rfl, rfl, by decide +kernel, rfl, by decide +kernel, by decide +kernel⟩
abbrev s_complement_parity : Stmt := topS 10
abbrev N_complement_parity : List Str := ["parity", "priorities", "priority"]
theorem sc_complement_parity : FnScope N_complement_parity ["parity"] (defScope s_complement_parity) := ⟨rfl, rfl, rfl, by decide +kernel, rfl, by decide +kernel, by decide +kernel⟩
abbrev s_law_cell : Stmt := topS 12
abbrev N_law_cell : List Str := ["script", "k"]
theorem sc_law_cell : FnScope N_law_cell ["script", "k"] (defScope s_law_cell) := ⟨rfl, rfl, rfl, by decide +kernel, rfl, by decide +kernel, by decide +kernel⟩
abbrev s_law_draws : Stmt := topS 13
abbrev N_law_draws : List Str := ["script", "count", "cells", "found", "mixed", "k", "j", "cell", "again"]
theorem sc_law_draws : FnScope N_law_draws ["script", "count"] (defScope s_law_draws) := ⟨rfl, rfl, rfl, by decide +kernel, rfl, by decide +kernel, by decide +kernel⟩
abbrev s_law_take : Stmt := topS 14
abbrev N_law_take : List Str := ["draws", "limit"]
theorem sc_law_take : FnScope N_law_take ["draws", "limit"] (defScope s_law_take) := ⟨rfl, rfl, rfl, by decide +kernel, rfl, by decide +kernel, by decide +kernel⟩
abbrev s_law_lasso : Stmt := topS 15
abbrev N_law_lasso : List Str := ["draws", "letters", "longest", "head", "loop", "k"]
theorem sc_law_lasso : FnScope N_law_lasso ["draws", "letters", "longest"] (defScope s_law_lasso) := ⟨rfl, rfl, rfl, by decide +kernel, rfl, by decide +kernel, by decide +kernel⟩
abbrev s_law_flat : Stmt := topS 16
abbrev N_law_flat : List Str := ["rows", "row"]
theorem sc_law_flat : FnScope N_law_flat ["rows"] (defScope s_law_flat) := ⟨rfl, rfl, rfl, by decide +kernel, rfl, by decide +kernel, by decide +kernel⟩
abbrev s_law_parity : Stmt := topS 17
abbrev N_law_parity : List Str := ["draws", "letters", "most", "count", "top", "priorities", "rows", "state", "letter"]
theorem sc_law_parity : FnScope N_law_parity ["draws", "letters", "most"] (defScope s_law_parity) := ⟨rfl, rfl, rfl, by decide +kernel, rfl, by decide +kernel, by decide +kernel⟩
abbrev s_law_best : Stmt := topS 18
abbrev N_law_best : List Str := ["start", "priorities", "rows", "lasso", "state", "letter", "k", "best"]
theorem sc_law_best : FnScope N_law_best ["start", "priorities", "rows", "lasso"] (defScope s_law_best) := ⟨rfl, rfl, rfl, by decide +kernel, rfl, by decide +kernel, by decide +kernel⟩
abbrev s_law_outcome : Stmt := topS 19
abbrev N_law_outcome : List Str := ["automaton", "lasso"]
theorem sc_law_outcome : FnScope N_law_outcome ["automaton", "lasso"] (defScope s_law_outcome) := ⟨rfl, rfl, rfl, by decide +kernel, rfl, by decide +kernel, by decide +kernel⟩
abbrev s_law : Stmt := topS 20
abbrev N_law : List Str := ["script", "draws", "letters", "start", "priorities", "rows", "base", "automaton", "lasso", "loop", "expected", "found", "other", "priority"]
theorem sc_law : FnScope N_law ["script"] (defScope s_law) := ⟨rfl, rfl, rfl, by decide +kernel, rfl, by decide +kernel, by decide +kernel⟩
abbrev s_ParityAutomaton_init : Stmt := inClass (topS 7) 0
abbrev N_ParityAutomaton_init : List Str := ["self", "letters", "start", "priorities", "rows", "row", "state"]
theorem sc_ParityAutomaton_init : FnScope N_ParityAutomaton_init ["self", "letters", "start", "priorities", "rows"] (defScope s_ParityAutomaton_init) := ⟨rfl, rfl, rfl, by decide +kernel, rfl, by decide +kernel, by decide +kernel⟩
structure Has (K : PySem.W.Frag) (mg : Str → Option Value) (x : Str) (st : Stmt) (ps : List Str) : Prop where
  ex : ∃ (f : Addr) (fd : FuncData), L2.Fun K x x st f fd ∧ mg x = some (.ref f) ∧ Binds K fd ps []
structure Txt (K : PySem.W.Frag) (mg : Str → Option Value) : Prop where
  h_check_letters : Has K mg "check_letters" s_check_letters ["lasso", "letters"]
  h_check_state : Has K mg "check_state" s_check_state ["state", "count"]
  h_accepts_parity : Has K mg "accepts_parity" s_accepts_parity ["parity", "lasso"]
  h_complement_parity : Has K mg "complement_parity" s_complement_parity ["parity"]
  h_law_cell : Has K mg "_law_cell" s_law_cell ["script", "k"]
  h_law_draws : Has K mg "_law_draws" s_law_draws ["script", "count"]
  h_law_take : Has K mg "_law_take" s_law_take ["draws", "limit"]
  h_law_lasso : Has K mg "_law_lasso" s_law_lasso ["draws", "letters", "longest"]
  h_law_flat : Has K mg "_law_flat" s_law_flat ["rows"]
  h_law_parity : Has K mg "_law_parity" s_law_parity ["draws", "letters", "most"]
  h_law_best : Has K mg "_law_best" s_law_best ["start", "priorities", "rows", "lasso"]
  h_law_outcome : Has K mg "_law_outcome" s_law_outcome ["automaton", "lasso"]
  z_bool : mg "bool" = none
  z_int : mg "int" = none
  z_isinstance : mg "isinstance" = none
  z_len : mg "len" = none
  z_list : mg "list" = none
  z_max : mg "max" = none
  z_min : mg "min" = none
  z_range : mg "range" = none
  z_tuple : mg "tuple" = none
  er : ∃ cL : Addr, ErrC K mg "InvalidLetter" cL ∧ ∃ (cI C fI : Addr) (fdI : FuncData), ErrC K mg "InvalidAutomaton" cI ∧ ParC K C ∧ Mk K C fI ∧ mg "ParityAutomaton" = some (.ref C) ∧ L2.Fun K "__init__" "ParityAutomaton.__init__" s_ParityAutomaton_init fI fdI ∧ Binds K fdI ["self", "letters", "start", "priorities", "rows"] []

-- BODY
def spLaw (K : PySem.W.Frag) : Sp := fun vs H Q _ => ∃ (a : Addr) (ns : List Int), vs = [.ref a] ∧ SqL K H a (ns.map V.int) ∧ ns.length ≤ 63 ∧ ∀ H', Q (.bl true) H'
section
variable {P : Program} {w : World} {K : PySem.W.Frag} {mg : Str → Option Value} {base : Heap}
theorem cal_take (T : Txt K mg) : C8.Cal P w K mg base 1 "_law_take" spTake [] := by
  obtain ⟨f, fd, F, hm, hb⟩ := T.h_law_take
  refine ⟨f, fd, _, [], F.ok sc_law_take (fun vs H Q E h => ?_) (fun cdv A outer s H vs Q E hr h => ?_), hm, F.kp, hb, .nil⟩
  · obtain ⟨d, n, rfl, _⟩ := h
    rfl
  · obtain ⟨d, n, rfl, ⟨ds, hd⟩, hn, q⟩ := h
    refine ⟨_, (pss_cons
      (ps_if (pt_cmpR op_eq (pe_callB (call_lenK (K := K) rfl) (by rfl) T.z_len PySem.boot_len (pa_cons (pv 0) pa_nil)) pe_int (nomark _)) (pss_one
      (ps_ret pe_int)) pss_nil)
      (pss_one
      (ps_ret (pe_op op_mod (pe_callTy call_int1 (by rfl) T.z_int (by decide +kernel) (pa_cons (pe_bm0 PySem.F.plainAttrs_list PySem.F.slot_list_pop PySem.F.type_list_pop mt_pop (pv 0)) pa_nil)) (pv 1))))), ?_⟩
    walk_at "bx"
    refine ite2 (fun e => ?_) (fun e => ?_)
    · have q0 := q 0 ds (Int.le_refl 0) hn
      rw [upd_self hd] at q0
      exact q0
    · have hne : ds ≠ [] := fun z => e (by rw [z]; rfl)
      refine ⟨_, rfl, .inl ⟨rfl, _, SqL.of hd⟩, d, _, .int (ds.getLast hne), rfl, rfl, hd, ?_, ?_⟩
      · rw [List.length_map, List.getElem?_map, ← List.getLast?_eq_getElem?, List.getLast?_eq_getLast hne]
        rfl
      · walk_at "bx"
        rw [← List.map_dropLast]
        exact q _ _ (Int.emod_nonneg _ (by omega)) (Int.emod_lt_of_pos _ hn)
theorem cal_draws (T : Txt K mg) : C8.Cal P w K mg base 1 "_law_draws" (spDraws K) [] := by
  obtain ⟨f, fd, F, hm, hb⟩ := T.h_law_draws
  refine ⟨f, fd, _, [], F.ok sc_law_draws (fun vs H Q E h => ?_) (fun cdv A outer s H vs Q E hr h => ?_), hm, F.kp, hb, .nil⟩
  · obtain ⟨a, ns, c, rfl, _⟩ := h
    rfl
  · obtain ⟨a, ns, n, rfl, hS, hn, q⟩ := h
    refine ⟨_, (pss_cons
      (ps_set (i := 2) sc_law_draws.nd rfl (Or.inl rfl) (pe_callTy (call_list_ofK (K := K) rfl) (by rfl) T.z_list (by decide +kernel) (pa_cons (pv 0) pa_nil)))
      (C8.pss_cut
      (ps_if (pt_cmpR op_eq (pe_callB (call_lenK (K := K) rfl) (by rfl) T.z_len PySem.boot_len (pa_cons (pv 2) pa_nil)) pe_int (nomark _)) (pss_one
      (ps_set (i := 2) sc_law_draws.nd rfl (Or.inl rfl) (pe_lst (pa_cons pe_int pa_nil)))) pss_nil)
      (pss_cons
      (ps_set (i := 3) sc_law_draws.nd rfl (Or.inl rfl) (pe_lst pa_nil))
      (pss_cons
      (ps_set (i := 4) sc_law_draws.nd rfl (Or.inl rfl) pe_int)
      (pss_cons
      (ps_for PassesOwn.never rfl (pi_range1 (by rfl) T.z_range (pa_cons (pv 1) pa_nil)) (pg_name (i := 5) sc_law_draws.nd rfl (.inl rfl)) (pss_cons
      (ps_set (i := 6) sc_law_draws.nd rfl (Or.inl rfl) (pe_op op_mod (pv 5) (pe_callB (call_lenK (K := K) rfl) (by rfl) T.z_len PySem.boot_len (pa_cons (pv 2) pa_nil))))
      (pss_cons
      (ps_set (i := 7) sc_law_draws.nd rfl (Or.inl rfl) (pe_ix (ix_listK (K := K) rfl) (pv 2) (pv 6) (fun _ _ => rfl)))
      (pss_cons
      (ps_set (i := 4) sc_law_draws.nd rfl (Or.inl rfl) (pe_op op_mod (pe_callTy call_int1 (by rfl) T.z_int (by decide +kernel) (pa_cons (pe_op op_add (pe_op op_add (pe_op op_add (pe_op op_mul (pv 4) pe_int) (pe_op op_mul (pe_op op_mod (pe_callTy call_int1 (by rfl) T.z_int (by decide +kernel) (pa_cons (pv 7) pa_nil)) pe_int) pe_int)) (pe_op op_mul (pv 5) pe_int)) pe_int) pa_nil)) pe_int))
      (pss_cons
      (ps_set (i := 8) sc_law_draws.nd rfl (Or.inl rfl) (pe_op op_mod (pe_callTy call_int1 (by rfl) T.z_int (by decide +kernel) (pa_cons (pe_op op_add (pe_op op_add (pe_op op_mul (pv 4) (pv 4)) (pe_op op_mul pe_int (pv 4))) (pv 5)) pa_nil)) pe_int))
      (pss_one
      (ps_if (pt_cmpR op_ge (pv 7) (pe_op op_pow pe_int pe_int) (nomark _)) (pss_cons
      (ps_expr (pe_bm PySem.F.plainAttrs_list PySem.F.slot_list_append PySem.F.type_list_append mt_append (pv 3) (pa_cons (pe_op op_mod (pe_callTy call_int1 (by rfl) T.z_int (by decide +kernel) (pa_cons (pv 7) pa_nil)) pe_int) pa_nil)))
      (pss_one
      (ps_asg (pe_op op_fdiv (pv 7) pe_int) (pg_sub (pv 2) (pv 6) set_list)))) (pss_one
      (ps_expr (pe_bm PySem.F.plainAttrs_list PySem.F.slot_list_append PySem.F.type_list_append mt_append (pv 3) (pa_cons (pe_op op_mod (pe_callTy call_int1 (by rfl) T.z_int (by decide +kernel) (pa_cons (pv 8) pa_nil)) pe_int) pa_nil)))))))))))
      (pss_cons
      (ps_expr (pe_bm0 PySem.F.plainAttrs_list PySem.F.slot_list_reverse PySem.F.type_list_reverse mt_reverse (pv 3)))
      (pss_one
      (ps_ret (pv 3))))))))), ?_⟩
    -- cells = list(script)
    refine ⟨_, rfl, a, _, rfl, .inl hS, fun l hl => ?_⟩
    -- if len(cells) == 0: cells = [7]
    refine ⟨fun σ H2 => ∃ (c : Addr) (cs : List Int), σ = [some (.ref a), some (.int n), some (.ref c), none, none, none, none, none, none] ∧ H c = none ∧ Same H H2 ∧ H2 c = some (.lst (cs.map V.int)) ∧ cs ≠ [], ?_, ?_⟩
    · have h0 : (upd H l (.lst (ns.map V.int))) l = some (.lst (ns.map V.int)) := upd_same
      walk_at "bx"
      refine ite2 (fun e => ?_) (fun e => ?_)
      · refine ⟨by show 1 ≤ sizeLine; decide, fun l2 h2 => ?_⟩
        have s1 : Same H (upd H l (.lst (ns.map V.int))) := same_new hl
        exact ⟨l2, [7], rfl, s1.free h2, s1.trans (same_new h2), upd_same, by decide⟩
      · exact ⟨l, ns, rfl, hl, same_new hl, upd_same, fun z => e (by rw [z]; rfl)⟩
    · rintro σ H2 ⟨c, cs, rfl, hc0, s2, hc, hcs⟩
      -- found = [], mixed = 12345
      refine ⟨Nat.zero_le _, fun o ho => ?_⟩
      have hco : c ≠ o := ne_of_none hc ho
      have ho0 : H o = none := s2.free ho
      -- for k in range(count)
      refine ⟨_, rfl, _, rfl, by omega, by omega, for_range (lo := 0) (n := ((n : Int)).toNat) (fun i σ H3 => ∃ (m : Int) (cs fs : List Int) (v5 v6 v7 v8 : Option V), σ = [some (.ref a), some (.int n), some (.ref c), some (.ref o), some (.int m), v5, v6, v7, v8] ∧ 0 ≤ m ∧ m < 2147483647 ∧ Same H H3 ∧ H3 c = some (.lst (cs.map V.int)) ∧ cs ≠ [] ∧ H3 o = some (.lst (fs.map V.int)) ∧ fs.length ≤ i)
        ⟨12345, cs, [], none, none, none, none, rfl, by decide, by decide, s2.trans (same_new ho), by rw [upd_ne hco]; exact hc, hcs, upd_same, Nat.le_refl _⟩ ?_ ?_⟩
      · rintro i σ H3 hi ⟨m, cs, fs, v5, v6, v7, v8, rfl, m0, m1, s3, hc, hcs, hf, hfl⟩
        have hl : 0 < cs.length := List.length_pos_iff.mpr hcs
        obtain ⟨z, hz⟩ : ∃ z, cs[i % cs.length]? = some z := ⟨_, List.getElem?_eq_getElem (Nat.mod_lt _ hl)⟩
        have ej : ((0 : Int) + (i : Int)) % (((cs.map V.int).length : Nat) : Int) = ((i % cs.length : Nat) : Int) := by
          rw [Int.zero_add, List.length_map]
          rfl
        -- j = k % len(cells)
        walk_at "bx"
        refine ⟨(show (0 : Int) < _ by rw [List.length_map]; omega), ?_⟩
        -- cell = cells[j]
        refine ⟨_, rfl, _, rfl, c, _, _, .int z, rfl, rfl, SqL.of hc, ?_, ?_⟩
        · rw [ej]
          exact atI_nat (by rw [List.getElem?_map, hz]; rfl)
        -- mixed, again
        walk_at "bx"
        have b1 : (0 : Int) ≤ z % 1000003 := Int.emod_nonneg _ (by decide)
        refine ⟨.inl ⟨?_, ?_⟩, ?_⟩
        · have := Int.emod_nonneg (m * 48271 + z % 1000003 * 69621 + (0 + (i : Int)) * 7919 + 11) (show (2147483647 : Int) ≠ 0 by decide)
          show -(2 ^ 64) < (m * 48271 + z % 1000003 * 69621 + (0 + (i : Int)) * 7919 + 11) % 2147483647
          omega
        · have := Int.emod_lt_of_pos (m * 48271 + z % 1000003 * 69621 + (0 + (i : Int)) * 7919 + 11) (show (0 : Int) < 2147483647 by decide)
          show (m * 48271 + z % 1000003 * 69621 + (0 + (i : Int)) * 7919 + 11) % 2147483647 < 2 ^ 64
          omega
        have c0 : 0 ≤ (m * 48271 + z % 1000003 * 69621 + (0 + (i : Int)) * 7919 + 11) % 2147483647 := Int.emod_nonneg _ (by decide)
        have c1 : (m * 48271 + z % 1000003 * 69621 + (0 + (i : Int)) * 7919 + 11) % 2147483647 < 2147483647 := Int.emod_lt_of_pos _ (by decide)
        walk_at "bx"
        refine ite2 (fun e => ?_) (fun e => ?_)
        · walk_at "bx"
          refine ⟨lenI (by omega), ?_⟩
          walk_at "bx"
          refine ⟨c, cs.map V.int, _, i % cs.length, rfl, rfl, by rw [upd_ne hco]; exact hc, by rw [ej]; exact ixN_at (by rw [List.length_map]; exact Nat.mod_lt _ hl), ?_⟩
          refine ⟨_, cs.set (i % cs.length) (z / 1000), fs ++ [z % 1000], _, _, _, _, rfl, c0, c1, fun b o' hb => ?_, by rw [upd_same, set_mapI], by simpa using hcs, by rw [upd_ne hco.symm, upd_same]; simp, by simp; omega⟩
          rw [upd_ne (fun z => by rw [z, hc0] at hb; cases hb), upd_ne (fun z => by rw [z, ho0] at hb; cases hb)]
          exact s3 _ _ hb
        · walk_at "bx"
          refine ⟨lenI (by omega), ?_⟩
          refine ⟨_, cs, fs ++ [_], _, _, _, _, rfl, c0, c1, fun b o' hb => ?_, by rw [upd_ne hco]; exact hc, hcs, by rw [upd_same, List.map_append]; rfl, by simp; omega⟩
          rw [upd_ne (fun z => by rw [z, ho0] at hb; cases hb)]
          exact s3 _ _ hb
      · rintro σ H3 ⟨m, cs, fs, v5, v6, v7, v8, rfl, m0, m1, s3, hc, hcs, hf, hfl⟩
        -- found.reverse()
        walk_at "bx"
        refine q _ o (fun b o' hb => ?_) ho0 ⟨fs.reverse, ?_⟩
        · rw [upd_ne (fun z => by rw [z, ho0] at hb; cases hb)]
          exact s3 _ _ hb
        · rw [upd_same, List.map_reverse]
theorem cal_cell (T : Txt K mg) : C8.Cal P w K mg base 1 "_law_cell" (spCell K) [] := by
  obtain ⟨f, fd, F, hm, hb⟩ := T.h_law_cell
  refine ⟨f, fd, _, [], F.ok sc_law_cell (fun vs H Q E h => ?_) (fun cdv A outer s H vs Q E hr h => ?_), hm, F.kp, hb, .nil⟩
  · obtain ⟨a, ns, k, rfl, _⟩ := h
    rfl
  · obtain ⟨a, ns, k, rfl, hS, q⟩ := h
    refine ⟨_, (pss_cons
      (ps_if (pt_cmpR op_lt (pv 1) (pe_callB (call_lenK (K := K) rfl) (by rfl) T.z_len PySem.boot_len (pa_cons (pv 0) pa_nil)) (nomark _)) (pss_one
      (ps_ret (pe_ix (ix_listK (K := K) rfl) (pv 0) (pv 1) (fun _ _ => rfl)))) pss_nil)
      (pss_one
      (ps_ret pe_int))), ?_⟩
    refine ⟨_, rfl, _, rfl, a, _, rfl, .inl hS, _, _, rfl, rfl, _, rfl, ite_lt (fun c => ?_) (fun _ => q 0)⟩
    rw [List.length_map] at c
    exact ⟨_, rfl, _, rfl, a, _, _, _, rfl, rfl, hS, atI_nat (at_map (by omega)), q _⟩
theorem cal_lasso (T : Txt K mg) : C8.Cal P w K mg base 2 "_law_lasso" spLasso [] := by
  have C_law_take : C8.Cal P w K mg base 1 "_law_take" spTake [] := cal_take T
  obtain ⟨f, fd, F, hm, hb⟩ := T.h_law_lasso
  refine ⟨f, fd, _, [], F.ok sc_law_lasso (fun vs H Q E h => ?_) (fun cdv A outer s H vs Q E hr h => ?_), hm, F.kp, hb, .nil⟩
  · obtain ⟨d, n, m, rfl, _⟩ := h
    rfl
  · obtain ⟨d, n, m, rfl, hd, hn, hm0, hm1, q⟩ := h
    refine ⟨_, (pss_cons
      (ps_setLc (i := 3) (own := [("k", 5)]) (g := gName 5) (tt := tYes) rfl sc_law_lasso.nd rfl rfl (sw_true rfl rfl rfl (by decide +kernel)) (pi_range1 (by rfl) T.z_range (pa_cons (C8.pe_c C_law_take hr (by decide) (by rfl) (pa_cons (pv 0) (pa_cons (pe_op op_add (pv 2) pe_int) pa_nil))) pa_nil)) (blkOk_by (N := N_law_lasso) (sc := defScope s_law_lasso) (by decide +kernel)) (fun _ _ _ _ _ => pg_name (i := 5) sc_law_lasso.nd rfl (Or.inl rfl)) (fun _ _ _ _ _ => pts_nil) (fun _ _ _ _ _ => (C8.pe_c C_law_take hr (by decide) (by rfl) (pa_cons (pv 0) (pa_cons (pv 1) pa_nil)))))
      (pss_cons
      (ps_setLc (i := 4) (own := [("k", 5)]) (g := gName 5) (tt := tYes) rfl sc_law_lasso.nd rfl rfl (sw_true rfl rfl rfl (by decide +kernel)) (pi_range1 (by rfl) T.z_range (pa_cons (pe_op op_add pe_int (C8.pe_c C_law_take hr (by decide) (by rfl) (pa_cons (pv 0) (pa_cons (pv 2) pa_nil)))) pa_nil)) (blkOk_by (N := N_law_lasso) (sc := defScope s_law_lasso) (by decide +kernel)) (fun _ _ _ _ _ => pg_name (i := 5) sc_law_lasso.nd rfl (Or.inl rfl)) (fun _ _ _ _ _ => pts_nil) (fun _ _ _ _ _ => (C8.pe_c C_law_take hr (by decide) (by rfl) (pa_cons (pv 0) (pa_cons (pv 1) pa_nil)))))
      (pss_one
      (ps_ret (pe_tup (pa_cons (pe_callTy (call_tuple_ofK (K := K) rfl) (by rfl) T.z_tuple (by decide +kernel) (pa_cons (pv 3) pa_nil)) (pa_cons (pe_callTy (call_tuple_ofK (K := K) rfl) (by rfl) T.z_tuple (by decide +kernel) (pa_cons (pv 4) pa_nil)) pa_nil))))))), ?_⟩
    -- head
    refine ⟨_, rfl, _, rfl, _, _, rfl, rfl, d, _, rfl, hd, by omega, fun r ds r0 r1 => ?_⟩
    refine ⟨_, rfl, by omega, by omega, fun D hD => ?_⟩
    have nDd : D ≠ d := fun z => by rw [z, upd_same] at hD; cases hD
    refine lc_range (lo := 0) (n := r.toNat) (fun i H' => ∃ xs : List Int, Kp d H H' ∧ Drw H' d ∧ H' D = some (.lst (xs.map V.int)) ∧ xs.length = i ∧ ∀ x ∈ xs, 0 ≤ x ∧ x < n)
      ⟨[], Kp.own.trans (Kp.new hD), Drw.own.new hD, upd_same, rfl, by simp⟩ ?_ ?_
    · rintro i H1 hi ⟨xs, k1, d1, e1, el, hx⟩
      refine ⟨rfl, _, rfl, _, rfl, d, _, rfl, d1, hn, fun u us u0 u1 => ?_⟩
      refine ⟨xs.map V.int, by rw [upd_ne nDd]; exact e1, lenI (by omega), xs ++ [u], ?_, ?_, ?_, ?_, ?_⟩
      · intro b o nb hb
        have nbD : b ≠ D := fun z => by
          have h0 : (upd H d (.lst (ds.map V.int))) D = none := hD
          rw [upd_ne nDd] at h0
          rw [z, h0] at hb
          cases hb
        rw [upd_ne nbD, upd_ne nb]
        exact k1 _ _ nb hb
      · exact ⟨us, by rw [upd_ne nDd.symm, upd_same]⟩
      · rw [upd_same, List.map_append]
        rfl
      · simp [el]
      · intro x hx2
        rcases List.mem_append.mp hx2 with z | z
        · exact hx x z
        · rw [List.mem_singleton.mp z]
          exact ⟨u0, u1⟩
    · rintro H1 ⟨xs, k1, d1, e1, el, hx⟩
      have hD0 : H D = none := by
        have h0 : (upd H d (.lst (ds.map V.int))) D = none := hD
        rw [upd_ne nDd] at h0
        exact h0
      -- loop
      refine ⟨_, rfl, _, rfl, d, _, rfl, d1, by omega, fun r2 ds2 r20 r21 => ?_⟩
      refine ⟨_, _, rfl, rfl, _, rfl, by omega, by omega, fun D2 hD2 => ?_⟩
      have nD2d : D2 ≠ d := fun z => by rw [z, upd_same] at hD2; cases hD2
      have hD2' : H1 D2 = none := by rw [upd_ne nD2d] at hD2; exact hD2
      have nDD : D ≠ D2 := ne_of_none e1 hD2'
      have hD20 : H D2 = none := by
        cases e : H D2 with
        | none => rfl
        | some o => rw [k1 _ _ nD2d e] at hD2'; cases hD2'
      refine lc_range (lo := 0) (n := (1 + r2).toNat) (fun i H' => ∃ ys : List Int, Kp d H H' ∧ Drw H' d ∧ H' D = some (.lst (xs.map V.int)) ∧ H' D2 = some (.lst (ys.map V.int)) ∧ ys.length = i ∧ ∀ x ∈ ys, 0 ≤ x ∧ x < n)
        ⟨[], k1.trans (Kp.own.trans (Kp.new hD2)), Drw.own.new hD2, by rw [upd_ne nDD, upd_ne nDd]; exact e1, upd_same, rfl, by simp⟩ ?_ ?_
      · rintro i H2 hi ⟨ys, k2, d2, e2, e3, el2, hy⟩
        refine ⟨rfl, _, rfl, _, rfl, d, _, rfl, d2, hn, fun u us u0 u1 => ?_⟩
        refine ⟨ys.map V.int, by rw [upd_ne nD2d]; exact e3, lenI (by omega), ys ++ [u], ?_, ?_, ?_, ?_, ?_, ?_⟩
        · intro b o nb hb
          rw [upd_ne (fun z => by rw [z, hD20] at hb; cases hb), upd_ne nb]
          exact k2 _ _ nb hb
        · exact ⟨us, by rw [upd_ne nD2d.symm, upd_same]⟩
        · rw [upd_ne nDD, upd_ne nDd]
          exact e2
        · rw [upd_same, List.map_append]
          rfl
        · simp [el2]
        · intro x hx2
          rcases List.mem_append.mp hx2 with z | z
          · exact hy x z
          · rw [List.mem_singleton.mp z]
            exact ⟨u0, u1⟩
      · rintro H2 ⟨ys, k2, d2, e2, e3, el2, hy⟩
        -- return (tuple(head), tuple(loop))
        refine ⟨_, rfl, D, _, rfl, .inl ⟨.of e2, fun a ha => ?_⟩⟩
        have e3' : (upd H2 a (.tup (xs.map V.int))) D2 = some (.lst (ys.map V.int)) := same_new ha _ _ e3
        refine ⟨_, rfl, D2, _, rfl, .inl ⟨.of e3', fun b hb => ?_⟩⟩
        refine ⟨by show 2 ≤ sizeLine; decide, fun p hp => ?_⟩
        have nab : a ≠ b := fun z => by rw [← z, upd_same] at hb; cases hb
        have nap : a ≠ p := fun z => by rw [← z, upd_ne nab, upd_same] at hp; cases hp
        have nbp : b ≠ p := fun z => by rw [← z, upd_same] at hp; cases hp
        refine q _ p xs ys (k2.trans ((Kp.new ha).trans ((Kp.new hb).trans (Kp.new hp)))) (((d2.new ha).new hb).new hp) ⟨a, b, upd_same, by rw [upd_ne nap, upd_ne nab, upd_same], by rw [upd_ne nbp, upd_same]⟩ (by omega) (fun z => ?_) (by omega) hx hy
        rw [z] at el2
        have : (0 : Nat) = (1 + r2).toNat := el2
        omega
theorem lc_seq {K : PySem.W.Frag} {i : Nat} {a : Addr} {xs : List V} {g : TG} {tt : TT} {te : TE} {vs : List Nat} {σ : L2.St} {H : Hp} {Q : VK} (hv : σ[i]? = some (some (.ref a))) (hq : SeqV H a xs) (Pv : Addr → Nat → Hp → Prop) (h0 : ∀ D, H D = none → Pv D 0 (upd H D (.lst [])))
    (hS : ∀ D j H', H D = none → Pv D j H' → Same H H')
    (hs : ∀ D, H D = none → ∀ i x H', xs[i]? = some x → Pv D i H' → g x (wipe σ vs) H' fun σ2 H2 => wipe σ2 vs = wipe σ vs ∧ tt σ2 H2 fun b H3 => if b = true then te σ2 H3 fun y H4 => ∃ acc, H4 D = some (.lst acc) ∧ acc.length < sizeLine ∧ Pv D (i + 1) (upd H4 D (.lst (acc ++ [y]))) else Pv D (i + 1) H3)
    (hd : ∀ D H', H D = none → Pv D xs.length H' → Q (.ref D) H') : tLc (iSeq K (tVar i)) g tt te vs σ H Q := by
  rcases hq with h | h
  · exact .inl ⟨_, hv, a, rfl, ⟨_, .of h⟩, fun D hD => lc_list (Pv D) (h0 D hD) (fun i H' _ p => .of (hS D i H' hD p _ _ h)) (hs D hD) (fun H' p => hd D H' hD p)⟩
  · exact .inr ⟨_, hv, a, rfl, ⟨_, .of h⟩, fun D hD => lc_tup (Pv D) (h0 D hD) (fun i H' _ p => .of (hS D i H' hD p _ _ h)) (hs D hD) (fun H' p => hd D H' hD p)⟩
theorem rowsUpd {H : Hp} {x : Addr} {o : HO} (hx : ∀ ys, H x ≠ some (.tup ys)) : ∀ {as : List Addr} {rs : List (List Int)}, RowsA .tup H as rs → RowsA .tup (upd H x o) as rs
  | [], [], _ => True.intro
  | a :: as, r :: rs, h => ⟨by
      have h1 := h.1
      rw [upd_ne (fun z => by rw [z] at h1; exact hx _ h1)]
      exact h1, rowsUpd hx h.2⟩
  | [], _ :: _, h => h.elim
  | _ :: _, [], h => h.elim
theorem refs_get {as : List Addr} {i : Nat} {v : V} (h : (as.map V.ref)[i]? = some v) : ∃ a, as[i]? = some a ∧ v = .ref a := by
  rw [List.getElem?_map] at h
  cases e : as[i]? with
  | none => rw [e] at h; cases h
  | some z => rw [e] at h; exact ⟨z, rfl, (Option.some.inj h).symm⟩
theorem ints_get {xs : List Int} {i : Nat} {v : V} (h : (xs.map V.int)[i]? = some v) : ∃ x, xs[i]? = some x ∧ v = .int x := by
  rw [List.getElem?_map] at h
  cases e : xs[i]? with
  | none => rw [e] at h; cases h
  | some z => rw [e] at h; exact ⟨z, rfl, (Option.some.inj h).symm⟩
theorem take_get {α : Type} {xs : List α} {i : Nat} {x : α} (h : xs[i]? = some x) : xs.take (i + 1) = xs.take i ++ [x] := by
  rw [List.take_add_one, h]
  rfl
theorem pl_next {f : Str} {v : V} {fs : List (Str × V)} {n : Nat} (h : fs.length ≤ n) : (putF f v fs).length ≤ n + 1 := Nat.le_trans (putF_len f v fs) (Nat.succ_le_succ h)
theorem pl_lt {fs : List (Str × V)} {n : Nat} (h : fs.length ≤ n) (k : n < 1000) : fs.length < 1000 := Nat.lt_of_le_of_lt h k
theorem pl_0 : ([] : List (Str × V)).length ≤ 0 := Nat.le_refl _
theorem fld_def {Kf : PySem.W.Frag} {ta tv : TE} {f : Str} {D : Ends} {σ : L2.St} {H : Hp} (h : tv σ H fun y H1 => ta σ H1 fun x H2 => ∃ a C dx fs, x = .ref a ∧ H2 a = some (.ins C dx fs) ∧ Cls Kf C ∧ NoAttr Kf C f ∧ fs.length < 1000 ∧ D.nx σ (upd H2 a (.ins C dx (putF f y fs)))) : sFld Kf ta tv f D σ H := h
theorem cb1_def {r : List V → Hp → VK → Prop} {te : TE} {σ : L2.St} {H : Hp} {Q : VK} (h : te σ H fun v H1 => r [v] H1 Q) : tCB r (tCons te tNil) σ H Q := h
theorem rows_some {mk : List V → HO} {H : Hp} : ∀ {as : List Addr} {rs : List (List Int)} {a : Addr}, RowsA mk H as rs → a ∈ as → ∃ o, H a = some o
  | [], _, _, _, h => by simp at h
  | b :: as, [], _, h, _ => h.elim
  | b :: as, r :: rs, a, h, m => by
    rcases List.mem_cons.mp m with z | z
    · rw [z]
      exact ⟨_, h.1⟩
    · exact rows_some h.2 z
theorem LL.same {H H' : Hp} {r : Addr} {as : List Addr} {rows : List (List Int)} (k : Same H H') (h : LL H r as rows) : LL H' r as rows := ⟨k _ _ h.1, h.2.same k⟩
theorem cal_check {cI : Addr} (T : Txt K mg) (eI : ErrC K mg "InvalidAutomaton" cI) : CalX P w K mg base 1 "check_state" (spCheckS cI) := by
  obtain ⟨f, fd, F, hm, hb⟩ := T.h_check_state
  refine ⟨f, fd, _, F.okX sc_check_state (fun vs H Q E h => ?_) (fun cdv A outer s H vs Q E hr h => ?_), hm, F.kp, hb⟩
  · obtain ⟨z, n, rfl, _⟩ := h
    rfl
  · obtain ⟨z, n, rfl, q1, q2⟩ := h
    refine ⟨_, (pss_one
      (ps_if (PW.pt (pw_or (pt_cmpR op_lt (pv 0) pe_int (nomark _)) (pw_or1 (pt_cmpR op_ge (pv 0) (pv 1) (nomark _))))) (pss_one
      (ps_raise rfl (takes_of rfl rfl rfl rfl) (eI.made rfl))) pss_nil)), ?_⟩
    refine ⟨_, rfl, _, _, rfl, rfl, _, rfl, ite_lt (fun c => q1 (by omega)) (fun c1 => ?_)⟩
    refine ⟨_, rfl, _, rfl, _, _, rfl, rfl, _, rfl, ite2 (fun c => ?_) (fun c => ?_)⟩
    · have := of_decide_eq_true c
      exact q1 (by omega)
    · have : ¬ n ≤ z := fun y => c (decide_eq_true y)
      exact q2 (by omega)
theorem ok_init {cI C fI : Addr} {fdI : FuncData} (T : Txt K mg) (eI : ErrC K mg "InvalidAutomaton" cI) (PC : ParC K C) (F : L2.Fun K "__init__" "ParityAutomaton.__init__" s_ParityAutomaton_init fI fdI) :
    FnOk P w K mg base (L2.CX P w) 2 fI fdI ["self", "letters", "start", "priorities", "rows"] (spInitP C cI) := by
  have X_check_state : CalX P w K mg base 1 "check_state" (spCheckS cI) := cal_check T eI
  refine F.okX sc_ParityAutomaton_init (fun vs H Q E h => ?_) (fun cdv A outer s H vs Q E hr h => ?_)
  · obtain ⟨x, p, r, dx, L, st, ps, as, rows, rfl, _⟩ := h
    rfl
  · obtain ⟨x, p, r, dx, L, st, ps, as, rows, rfl, hx, hp, hrw, hq, l1, l2, l3, q1, q2⟩ := h
    refine ⟨_, (pss_cons
      (ps_if (pt_cmpR op_lt (pv 1) pe_int (nomark _)) (pss_one
      (ps_raise rfl (takes_of rfl rfl rfl rfl) (eI.made rfl))) pss_nil)
      (pss_cons
      (ps_if (pt_cmpR op_eq (pe_callB (call_lenK (K := K) rfl) (by rfl) T.z_len PySem.boot_len (pa_cons (pv 4) pa_nil)) pe_int (nomark _)) (pss_one
      (ps_raise rfl (takes_of rfl rfl rfl rfl) (eI.made rfl))) pss_nil)
      (pss_cons
      (ps_if (pt_cmpR op_ne (pe_callB (call_lenK (K := K) rfl) (by rfl) T.z_len PySem.boot_len (pa_cons (pv 3) pa_nil)) (pe_callB (call_lenK (K := K) rfl) (by rfl) T.z_len PySem.boot_len (pa_cons (pv 4) pa_nil)) (nomark _)) (pss_one
      (ps_raise rfl (takes_of rfl rfl rfl rfl) (eI.made rfl))) pss_nil)
      (pss_cons
      (ps_expr (pe_cx X_check_state hr (by decide) (takes_of rfl rfl rfl rfl) (by rfl) (pa_cons (pv 2) (pa_cons (pe_callB (call_lenK (K := K) rfl) (by rfl) T.z_len PySem.boot_len (pa_cons (pv 4) pa_nil)) pa_nil))))
      (pss_cons
      (ps_for (passes_of rfl) rfl (pi_seq (K := K) rfl (pv 4)) (pg_name (i := 5) sc_ParityAutomaton_init.nd rfl (.inl rfl)) (pss_cons
      (ps_if (pt_cmpR op_ne (pe_callB (call_lenK (K := K) rfl) (by rfl) T.z_len PySem.boot_len (pa_cons (pv 5) pa_nil)) (pv 1) (nomark _)) (pss_one
      (ps_raise rfl (takes_of rfl rfl rfl rfl) (eI.made rfl))) pss_nil)
      (pss_one
      (ps_for (passes_of rfl) rfl (pi_seq (K := K) rfl (pv 5)) (pg_name (i := 6) sc_ParityAutomaton_init.nd rfl (.inl rfl)) (pss_one
      (ps_expr (pe_cx X_check_state hr (by decide) (takes_of rfl rfl rfl rfl) (by rfl) (pa_cons (pv 6) (pa_cons (pe_callB (call_lenK (K := K) rfl) (by rfl) T.z_len PySem.boot_len (pa_cons (pv 4) pa_nil)) pa_nil)))))))))
      (pss_cons
      (ps_if (pt_cmpR op_lt (pe_callB (call_minK (K := K) rfl rfl) (by rfl) T.z_min (by decide +kernel) (pa_cons (pv 3) pa_nil)) pe_int (nomark _)) (pss_one
      (ps_raise rfl (takes_of rfl rfl rfl rfl) (eI.made rfl))) pss_nil)
      (pss_cons
      (ps_fld (pv 0) (pv 1) rfl)
      (pss_cons
      (ps_fld (pv 0) (pv 2) rfl)
      (pss_cons
      (ps_fld (pv 0) (pe_callTy (call_tuple_ofK (K := K) rfl) (by rfl) T.z_tuple (by decide +kernel) (pa_cons (pv 3) pa_nil)) rfl)
      (pss_one
      (ps_fld (pv 0) (pe_callTy (call_tuple_ofK (K := K) rfl) (by rfl) T.z_tuple (by decide +kernel) (pa_cons (pe_lc (own := [("row", 5)]) (g := gName 5) (tt := tYes) rfl sc_ParityAutomaton_init.nd (pi_seq (K := K) rfl (pv 4)) (blkOk_by (N := N_ParityAutomaton_init) (sc := defScope s_ParityAutomaton_init) (by decide +kernel)) (fun _ _ _ _ _ => pg_name (i := 5) sc_ParityAutomaton_init.nd rfl (Or.inl rfl)) (fun _ _ _ _ _ => pts_nil) (fun _ _ _ _ _ => (pe_callTy (call_tuple_ofK (K := K) rfl) (by rfl) T.z_tuple (by decide +kernel) (pa_cons (pv 5) pa_nil)))) pa_nil)) rfl))))))))))), ?_⟩
    have hlen : as.length = rows.length := hq.len
    have hl2 : (as.map V.ref).length = rows.length := by rw [List.length_map, hlen]
    refine ⟨_, rfl, _, _, rfl, rfl, _, rfl, ite_lt (fun c => q1 (fun v => by have := v.1; omega)) (fun c1 => ?_)⟩
    refine ⟨_, rfl, r, _, rfl, hrw.sq, rfl, _, rfl, ite_eq (fun c => ?_) (fun c2 => ?_)⟩
    · exact q1 fun v => v.2.1 (List.length_eq_zero_iff.mp (by omega))
    have hne : rows ≠ [] := fun z => c2 (by rw [hl2, z]; rfl)
    refine ⟨_, rfl, p, _, rfl, .inl (.of hp), _, rfl, r, _, rfl, hrw.sq, rfl, _, rfl, ite_ne (fun c => ?_) (fun c3 => ?_)⟩
    · exact q1 fun v => c (by rw [hl2, List.length_map, v.2.2.1])
    have e3 : ps.length = rows.length := by
      rw [List.length_map] at c3
      omega
    refine ⟨_, rfl, _, rfl, r, _, rfl, hrw.sq, st, _, rfl, fun c => q1 fun v => c (by rw [hl2]; exact v.2.2.2.1), fun c4 => ?_⟩
    rw [hl2] at c4
    refine for_seq (a := r) (xs := as.map V.ref) rfl hrw (fun i σ' H' => ∃ v5 v6 : Option V, σ' = [some (.ref x), some (.int L), some (.int st), some (.ref p), some (.ref r), v5, v6] ∧ H' = H ∧ ∀ q ∈ rows.take i, (q.length : Int) = L ∧ ∀ y ∈ q, 0 ≤ y ∧ y < (rows.length : Int))
      ⟨_, _, rfl, rfl, by simp⟩ (fun i σ' H' ⟨_, _, _, z, _⟩ => by rw [z]; exact fun _ _ h => h) ?_ ?_
    · rintro i v σ' H' hi ⟨v5, v6, rfl, rfl, hall⟩
      obtain ⟨a, ha, rfl⟩ := refs_get hi
      obtain ⟨row, hrow, sr⟩ := hq.get ha
      have hmem := List.mem_of_getElem? hrow
      refine ⟨_, rfl, a, _, rfl, sr.sq, _, rfl, rfl, _, rfl, ite_ne (fun c => ?_) (fun c5 => ?_)⟩
      · exact q1 fun v => c (by rw [List.length_map]; exact (v.2.2.2.2.1 row hmem).1)
      rw [List.length_map] at c5
      refine for_seq (a := a) (xs := row.map V.int) rfl sr (fun j σ' H2 => ∃ v6 : Option V, σ' = [some (.ref x), some (.int L), some (.int st), some (.ref p), some (.ref r), some (.ref a), v6] ∧ H2 = H' ∧ ∀ y ∈ row.take j, 0 ≤ y ∧ y < (rows.length : Int))
        ⟨_, rfl, rfl, by simp⟩ (fun i σ' H' ⟨_, _, z, _⟩ => by rw [z]; exact fun _ _ h => h) ?_ ?_
      · rintro j v σ' H2 hj ⟨v6, rfl, rfl, hall2⟩
        obtain ⟨y, hy, rfl⟩ := ints_get hj
        refine ⟨_, rfl, _, rfl, r, _, rfl, hrw.sq, y, _, rfl, fun c => q1 fun v => c (by rw [hl2]; exact (v.2.2.2.2.1 row hmem).2 y (List.mem_of_getElem? hy)), fun c6 => ?_⟩
        rw [hl2] at c6
        refine ⟨_, rfl, rfl, fun z hz => ?_⟩
        rw [take_get hy] at hz
        rcases List.mem_append.mp hz with k | k
        · exact hall2 z k
        · rw [List.mem_singleton.mp k]
          exact c6
      · rintro σ' H2 ⟨v6, rfl, rfl, hall2⟩
        rw [List.length_map, List.take_length] at hall2
        refine ⟨_, _, rfl, rfl, fun z hz => ?_⟩
        rw [take_get hrow] at hz
        rcases List.mem_append.mp hz with k | k
        · exact hall z k
        · rw [List.mem_singleton.mp k]
          exact ⟨c5, hall2⟩
    · rintro σ' H' ⟨v5, v6, rfl, rfl, hall⟩
      rw [hl2, List.take_length] at hall
      refine ⟨_, rfl, p, ps, rfl, .of hp, by rw [e3]; exact List.length_pos_iff.mpr hne, fun m hm hmin => ⟨_, _, rfl, rfl, _, rfl, ite_lt (fun c => ?_) (fun c7 => ?_)⟩⟩
      · exact q1 fun v => by
          have := v.2.2.2.2.2 m hm
          omega
      have hv : Vld L st ps rows := ⟨by omega, hne, e3, c4, hall, fun q hq => by
        have := hmin q hq
        omega⟩
      -- self.letters, self.start
      refine ⟨_, rfl, _, rfl, x, C, dx, [], rfl, hx, PC.cl, PC.nL, by decide, ?_⟩
      refine ⟨_, rfl, _, rfl, x, C, dx, _, rfl, upd_same, PC.cl, PC.nS, pl_lt (pl_next pl_0) (by decide), ?_⟩
      have k2 : Kp x H' (upd (upd H' x (.ins C dx (putF "letters" (.int L) []))) x (.ins C dx (putF "start" (.int st) (putF "letters" (.int L) [])))) := Kp.own.trans Kp.own
      have x2 : (upd (upd H' x (.ins C dx (putF "letters" (.int L) []))) x (.ins C dx (putF "start" (.int st) (putF "letters" (.int L) [])))) x = some (.ins C dx (putF "start" (.int st) (putF "letters" (.int L) []))) := upd_same
      generalize upd (upd H' x (.ins C dx (putF "letters" (.int L) []))) x (.ins C dx (putF "start" (.int st) (putF "letters" (.int L) []))) = H2 at *
      have npx : p ≠ x := fun z => by rw [z, hx] at hp; cases hp
      -- self.priorities
      refine ⟨_, rfl, p, _, rfl, .inl ⟨.of (k2 _ _ npx hp), fun pt hpt => ?_⟩⟩
      have nxp : x ≠ pt := fun z => by rw [z, hpt] at x2; cases x2
      refine ⟨_, rfl, x, C, dx, _, rfl, by rw [upd_ne nxp]; exact x2, PC.cl, PC.nP, pl_lt (pl_next (pl_next pl_0)) (by decide), ?_⟩
      have k3 : Kp x H2 (upd (upd H2 pt (.tup (ps.map V.int))) x (.ins C dx (putF "priorities" (.ref pt) (putF "start" (.int st) (putF "letters" (.int L) []))))) := (Kp.new hpt).trans Kp.own
      have x3 : (upd (upd H2 pt (.tup (ps.map V.int))) x (.ins C dx (putF "priorities" (.ref pt) (putF "start" (.int st) (putF "letters" (.int L) []))))) x = some (.ins C dx (putF "priorities" (.ref pt) (putF "start" (.int st) (putF "letters" (.int L) [])))) := upd_same
      have t3 : TupI (upd (upd H2 pt (.tup (ps.map V.int))) x (.ins C dx (putF "priorities" (.ref pt) (putF "start" (.int st) (putF "letters" (.int L) []))))) pt ps := by
        show _ = _
        rw [upd_ne nxp.symm, upd_same]
      generalize upd (upd H2 pt (.tup (ps.map V.int))) x (.ins C dx (putF "priorities" (.ref pt) (putF "start" (.int st) (putF "letters" (.int L) [])))) = H3 at *
      have nrx : r ≠ x := fun z => by
        rcases hrw with h | h
        · rw [z, hx] at h; cases h
        · rw [z, hx] at h; cases h
      have k03 : Kp x H' H3 := k2.trans k3
      have hr3 : SeqV H3 r (as.map V.ref) := by
        rcases hrw with h | h
        · exact .inl (k03 _ _ nrx h)
        · exact .inr (k03 _ _ nrx h)
      have q3 : ∀ {b : Addr} {xs : List Int}, SeqI H' b xs → SeqI H3 b xs := fun {b xs} h => by
        rcases h with h | h
        · exact .inl (k03 _ _ (fun z => by rw [z, hx] at h; cases h) h)
        · exact .inr (k03 _ _ (fun z => by rw [z, hx] at h; cases h) h)
      -- self.rows
      dsimp only
      refine fld_def (cb1_def ?_)
      refine lc_seq (a := r) (xs := as.map V.ref) rfl hr3 (fun D i H4 => ∃ bs : List Addr, Same H3 H4 ∧ H4 D = some (.lst (bs.map V.ref)) ∧ RowsA .tup H4 bs (rows.take i))
        (fun D hD => ⟨[], same_new hD, upd_same, True.intro⟩) (fun D j H4 _ ⟨_, z, _⟩ => z) ?_ ?_
      · rintro D hD i v H4 hi ⟨bs, s4, e4, R4⟩
        obtain ⟨a, ha, rfl⟩ := refs_get hi
        obtain ⟨row, hrow, sr⟩ := hq.get ha
        have hil : i < rows.length := (List.getElem?_eq_some_iff.mp hrow).1
        refine ⟨rfl, _, rfl, ?_⟩
        dsimp only [tNil]
        refine tupq ((q3 sr).same s4) fun H5 t s5 t5 => ?_
        have bl : bs.length ≤ i := by
          have := R4.len
          rw [List.length_take] at this
          omega
        refine ⟨_, s5 _ _ e4, by rw [List.length_map]; exact Nat.lt_of_le_of_lt (show bs.length ≤ 1000 by omega) (by decide), bs ++ [t], ?_, ?_, ?_⟩
        · intro b o hb
          rw [upd_ne (ne_of_none hb hD)]
          exact s5 _ _ (s4 _ _ hb)
        · rw [upd_same, List.map_append]
          rfl
        · rw [take_get hrow]
          have nt : ∀ ys, H5 D ≠ some (.tup ys) := fun ys z => by rw [s5 _ _ e4] at z; cases z
          refine RowsA.snoc ?_ (rowsUpd nt (R4.same s5))
          rw [upd_ne (fun z => by rw [z] at t5; exact nt _ t5)]
          exact t5
      · rintro D H4 hD ⟨bs, s4, e4, R4⟩
        rw [hl2, List.take_length] at R4
        refine ⟨D, _, rfl, .inl ⟨.of e4, fun rt hrt => ?_⟩⟩
        have nxr : x ≠ rt := fun z => by
          have y := s4 _ _ x3
          rw [z, hrt] at y
          cases y
        have npr : pt ≠ rt := fun z => by
          have y := s4 _ _ t3
          rw [z, hrt] at y
          cases y
        have x4 : (upd H4 rt (.tup (bs.map V.ref))) x = some (.ins C dx (putF "priorities" (.ref pt) (putF "start" (.int st) (putF "letters" (.int L) [])))) := by
          rw [upd_ne nxr]
          exact s4 _ _ x3
        refine ⟨_, rfl, x, C, dx, _, rfl, x4, PC.cl, PC.nR, pl_lt (pl_next (pl_next (pl_next pl_0))) (by decide), q2 hv _ ?_ ⟨dx, pt, rt, bs, upd_same, ?_, ?_, ?_⟩⟩
        · intro b o nb hb
          rw [upd_ne nb, upd_ne (fun z => by have y := s4 _ _ (k03 _ _ nb hb); rw [z, hrt] at y; cases y)]
          exact s4 _ _ (k03 _ _ nb hb)
        · show _ = _
          rw [upd_ne nxp.symm, upd_ne npr]
          exact s4 _ _ t3
        · rw [upd_ne nxr.symm, upd_same]
        · exact rowsUpd (fun ys z => by rw [x4] at z; cases z) (R4.same (same_new hrt))
/-! a fresh instance -/
theorem same_made {C x dx : Addr} {H1 H2 : Hp} (hx : H1 x = none) (hd : H1 dx = none) (k : Kp x (upd (upd H1 dx (.own x)) x (.ins C dx [])) H2) : Same H1 H2 := fun b o hb => by
  have n1 : b ≠ x := fun z => by rw [z, hx] at hb; cases hb
  have n2 : b ≠ dx := fun z => by rw [z, hd] at hb; cases hb
  refine k _ _ n1 ?_
  rw [upd_ne n1, upd_ne n2]
  exact hb
theorem same_fresh {C x dx : Addr} {H1 : Hp} (hx : H1 x = none) (hd : H1 dx = none) : Same H1 (upd (upd H1 dx (.own x)) x (.ins C dx [])) := same_made hx hd (Kp.refl _ _)
def spCompl (C : Addr) : Sp := fun vs H Q _ => ∃ (x : Addr) (L s : Int) (ps : List Int) (rows : List (List Int)), vs = [.ref x] ∧ ParAt C H x L s ps rows ∧ Vld L s ps rows ∧ rows.length ≤ 1000 ∧ ps.length ≤ 1000 ∧ (∀ q ∈ rows, q.length ≤ 1000) ∧
  ∀ (H' : Hp) (y : Addr), Same H H' → ParAt C H' y L s (ps.map (· + 1)) rows → Q (.ref y) H'
theorem cal_compl {cI C fI : Addr} {fdI : FuncData} (T : Txt K mg) (eI : ErrC K mg "InvalidAutomaton" cI) (PC : ParC K C) (hM : Mk K C fI) (gC : mg "ParityAutomaton" = some (.ref C)) (F0 : L2.Fun K "__init__" "ParityAutomaton.__init__" s_ParityAutomaton_init fI fdI) (hB : Binds K fdI ["self", "letters", "start", "priorities", "rows"] []) :
    C8.Cal P w K mg base 4 "complement_parity" (spCompl C) [] := by
  have MK : MakX P w K mg base 2 "ParityAutomaton" C (spInitP C cI) := ⟨fI, fdI, _, hM, ok_init T eI PC F0, gC, hB⟩
  obtain ⟨f, fd, F, hm, hb⟩ := T.h_complement_parity
  refine ⟨f, fd, _, [], F.ok sc_complement_parity (fun vs H Q E h => ?_) (fun cdv A outer s H vs Q E hr h => ?_), hm, F.kp, hb, .nil⟩
  · obtain ⟨x, L, s, ps, rows, rfl, _⟩ := h
    rfl
  · obtain ⟨x, L, st, ps, rows, rfl, hP, hv, b1, b2, b3, q⟩ := h
    refine ⟨_, (pss_cons
      (ps_setLc (i := 1) (own := [("priority", 2)]) (g := gName 2) (tt := tYes) rfl sc_complement_parity.nd rfl rfl (sw_true rfl rfl rfl (by decide +kernel)) (pi_tup (pe_fld (pv 0) rfl)) (blkOk_by (N := N_complement_parity) (sc := defScope s_complement_parity) (by decide +kernel)) (fun _ _ _ _ _ => pg_name (i := 2) sc_complement_parity.nd rfl (Or.inl rfl)) (fun _ _ _ _ _ => pts_nil) (fun _ _ _ _ _ => (pe_op op_add (pv 2) pe_int)))
      (pss_one
      (ps_ret (pe_makeN MK hr (by decide) (by rfl) (pa_cons (pe_fld (pv 0) rfl) (pa_cons (pe_fld (pv 0) rfl) (pa_cons (pv 1) (pa_cons (pe_fld (pv 0) rfl) pa_nil)))))))), ?_⟩
    obtain ⟨dx, pt, rt, as, e1, e2, e3, e4⟩ := id hP
    refine ⟨_, rfl, x, C, dx, _, _, rfl, e1, PC.cl, PC.nP, pf_p _ _ _ _, pt, rfl, ⟨_, .of e2⟩, fun D hD => lc_tup (K := K) (a := pt) (xs := ps.map V.int) (fun i H' => Same H H' ∧ H' D = some (.lst (((ps.take i).map (· + 1)).map V.int)))
      ⟨same_new hD, upd_same⟩ (fun i H' _ ⟨z, _⟩ => .of (z _ _ e2)) ?_ ?_⟩
    · rintro i v H2 hi ⟨s2, eD⟩
      obtain ⟨z, hz, rfl⟩ := ints_get hi
      refine ⟨rfl, _, rfl, _, _, rfl, rfl, _, eD, lenI (by rw [List.length_map, List.length_take]; omega), fun b o hb => ?_, ?_⟩
      · rw [upd_ne (ne_of_none hb hD)]
        exact s2 _ _ hb
      · rw [upd_same, take_get hz, List.map_append, List.map_append]
        rfl
    · rintro H2 ⟨s2, eD⟩
      rw [List.length_map, List.take_length] at eD
      have f1 := s2 _ _ e1
      refine ⟨_, rfl, x, C, dx, _, _, rfl, f1, PC.cl, PC.nL, pf_L _ _ _ _, _, rfl, x, C, dx, _, _, rfl, f1, PC.cl, PC.nS, pf_s _ _ _ _, _, rfl, _, rfl, x, C, dx, _, _, rfl, f1, PC.cl, PC.nR, pf_r _ _ _ _, fun y dy hy hdy hne => ?_⟩
      have s3 := same_fresh (C := C) hy hdy
      refine ⟨y, D, rt, dy, L, st, ps.map (· + 1), as, rows, rfl, upd_same, s3 _ _ eD, .inr (s3 _ _ (s2 _ _ e3)), (e4.same (s2.trans s3)).q2, b1, by rw [List.length_map]; exact b2, b3, fun c => absurd ?_ c, fun _ H3 k3 P3 => ⟨rfl, q H3 y (s2.trans (same_made hy hdy k3)) P3⟩⟩
      exact ⟨hv.1, hv.2.1, by rw [List.length_map]; exact hv.2.2.1, hv.2.2.2.1, hv.2.2.2.2.1, fun z hz => by
        obtain ⟨u, hu, rfl⟩ := List.mem_map.mp hz
        have := hv.2.2.2.2.2 u hu
        omega⟩
theorem RowsA.drop {H : Hp} {D : Addr} {o : HO} {as : List Addr} {rs : List (List Int)} (n : D ∉ as) (h : RowsA .lst H as rs) : RowsA .lst (upd H D o) as rs := h.keep fun b _ hb e => by rw [upd_ne (fun z => n (by rw [← z]; exact hb))]; exact e
def Cpy (H H' : Hp) (r' : Addr) (as' : List Addr) (rows : List (List Int)) : Prop := Same H H' ∧ LL H' r' as' rows ∧ (∀ b ∈ as', H b = none) ∧ H r' = none ∧ r' ∉ as'
/-- one more row of a copy -/
theorem cpy_step {H H' : Hp} {D t : Addr} {bs : List Addr} {rs : List (List Int)} {row : List Int} (h : Cpy H H' D bs rs) (ht : H' t = none) : Cpy H (upd (upd H' t (.lst (row.map V.int))) D (.lst ((bs ++ [t]).map V.ref))) D (bs ++ [t]) (rs ++ [row]) := by
  obtain ⟨s1, ⟨e1, R1⟩, n1, d1, m1⟩ := h
  have nt : D ≠ t := fun z => by rw [z, ht] at e1; cases e1
  refine ⟨fun b o hb => ?_, ⟨upd_same, ?_⟩, fun b hb => ?_, d1, fun z => ?_⟩
  · rw [upd_ne (ne_of_none hb d1), upd_ne (ne_of_none (s1 _ _ hb) ht)]
    exact s1 _ _ hb
  · refine RowsA.snoc ?_ (My.RowsA.drop m1 (R1.same (same_new ht)))
    rw [upd_ne nt.symm, upd_same]
  · rcases List.mem_append.mp hb with z | z
    · exact n1 b z
    · rw [List.mem_singleton.mp z]
      exact s1.free ht
  · rcases List.mem_append.mp z with y | y
    · exact m1 y
    · exact nt (List.mem_singleton.mp y)
theorem cpy_zero {H : Hp} {D : Addr} (hD : H D = none) : Cpy H (upd H D (.lst [])) D [] [] := ⟨same_new hD, ⟨upd_same, True.intro⟩, (by simp), hD, by simp⟩
def spFlat : Sp := fun vs H Q _ => ∃ (r : Addr) (as : List Addr) (rows : List (List Int)), vs = [.ref r] ∧ LL H r as rows ∧ rows.length ≤ 1000 ∧ ∀ (H' : Hp) (r' : Addr) (as' : List Addr), Cpy H H' r' as' rows → Q (.ref r') H'
theorem cal_flat (T : Txt K mg) : C8.Cal P w K mg base 1 "_law_flat" spFlat [] := by
  obtain ⟨f, fd, F, hm, hb⟩ := T.h_law_flat
  refine ⟨f, fd, _, [], F.ok sc_law_flat (fun vs H Q E h => ?_) (fun cdv A outer s H vs Q E hr h => ?_), hm, F.kp, hb, .nil⟩
  · obtain ⟨r, as, rows, rfl, _⟩ := h
    rfl
  · obtain ⟨r, as, rows, rfl, hL, b1, q⟩ := h
    refine ⟨_, (pss_one
      (ps_ret (pe_lc (own := [("row", 1)]) (g := gName 1) (tt := tYes) rfl sc_law_flat.nd (pi_list (pv 0)) (blkOk_by (N := N_law_flat) (sc := defScope s_law_flat) (by decide +kernel)) (fun _ _ _ _ _ => pg_name (i := 1) sc_law_flat.nd rfl (Or.inl rfl)) (fun _ _ _ _ _ => pts_nil) (fun _ _ _ _ _ => (pe_callTy (call_list_ofK (K := K) rfl) (by rfl) T.z_list (by decide +kernel) (pa_cons (pv 1) pa_nil)))))), ?_⟩
    have hl2 : (as.map V.ref).length = rows.length := by rw [List.length_map, hL.2.len]
    refine ⟨_, rfl, r, rfl, ⟨_, .of hL.1⟩, fun D hD => lc_list (K := K) (a := r) (xs := as.map V.ref) (fun i H' => ∃ bs, Cpy H H' D bs (rows.take i))
      ⟨[], cpy_zero hD⟩ (fun i H' _ ⟨_, z, _⟩ => .of (z _ _ hL.1)) ?_ ?_⟩
    · rintro i v H2 hi ⟨bs, c2⟩
      obtain ⟨a, ha, rfl⟩ := refs_get hi
      obtain ⟨row, hrow, sr⟩ := hL.2.get ha
      have hil : i < rows.length := (List.getElem?_eq_some_iff.mp hrow).1
      have bl := c2.2.1.2.len
      rw [List.length_take] at bl
      have nD : ∀ t, H2 t = none → D ≠ t := fun t ht z => by
        have := c2.2.1.1
        rw [z, ht] at this
        cases this
      refine ⟨rfl, _, rfl, a, _, rfl, .inl (.of (c2.1 _ _ sr)), fun t ht => ⟨_, by rw [upd_ne (nD t ht)]; exact c2.2.1.1, by rw [List.length_map]; exact Nat.lt_of_le_of_lt (show bs.length ≤ 1000 by omega) (by decide), bs ++ [t], ?_⟩⟩
      rw [take_get hrow]
      have := cpy_step (row := row) c2 ht
      rw [List.map_append] at this
      exact this
    · rintro H2 ⟨bs, c2⟩
      rw [hl2, List.take_length] at c2
      exact q _ _ _ c2
/-! what the law draws -/
def Gd (d : Addr) (n L s : Int) (pp r : Addr) (as : List Addr) (ps : List Int) (rows : List (List Int)) : Prop := Vld L s ps rows ∧ n = rows.length ∧ (pp :: as).Nodup ∧ d ≠ pp ∧ d ≠ r ∧ d ∉ as ∧ pp ≠ r ∧ r ∉ as
def spPar : Sp := fun vs H Q _ => ∃ (d : Addr) (L : Int) (m : Nat), vs = [.ref d, .int L, .int m] ∧ Drw H d ∧ 1 ≤ L ∧ L ≤ 100 ∧ 1 ≤ m ∧ m ≤ 100 ∧
  ∀ (H' : Hp) (t pp r : Addr) (as : List Addr) (s : Int) (ps : List Int) (rows : List (List Int)), Kp d H H' → Drw H' d → H' t = some (.tup [.int s, .ref pp, .ref r]) → H' pp = some (.lst (ps.map V.int)) → LL H' r as rows → Gd d rows.length L s pp r as ps rows → rows.length ≤ m → Q (.ref t) H'
theorem cal_parity (T : Txt K mg) : C8.Cal P w K mg base 2 "_law_parity" spPar [] := by
  have C_law_take : C8.Cal P w K mg base 1 "_law_take" spTake [] := cal_take T
  obtain ⟨f, fd, F, hm, hb⟩ := T.h_law_parity
  refine ⟨f, fd, _, [], F.ok sc_law_parity (fun vs H Q E h => ?_) (fun cdv A outer s H vs Q E hr h => ?_), hm, F.kp, hb, .nil⟩
  · obtain ⟨d, L, m, rfl, _⟩ := h
    rfl
  · obtain ⟨d, L, m, rfl, hd, L1, L2, m1, m2, q⟩ := h
    refine ⟨_, (pss_cons
      (ps_set (i := 3) sc_law_parity.nd rfl (Or.inr rfl) (pe_op op_add pe_int (C8.pe_c C_law_take hr (by decide) (by rfl) (pa_cons (pv 0) (pa_cons (pv 2) pa_nil)))))
      (pss_cons
      (ps_set (i := 4) sc_law_parity.nd rfl (Or.inr rfl) (pe_op op_add pe_int (C8.pe_c C_law_take hr (by decide) (by rfl) (pa_cons (pv 0) (pa_cons pe_int pa_nil)))))
      (pss_cons
      (ps_setLc (i := 5) (own := [("state", 7)]) (g := gName 7) (tt := tYes) rfl sc_law_parity.nd rfl rfl (sw_true rfl rfl rfl (by decide +kernel)) (pi_range1 (by rfl) T.z_range (pa_cons (pv 3) pa_nil)) (blkOk_by (N := N_law_parity) (sc := defScope s_law_parity) (by decide +kernel)) (fun _ _ _ _ _ => pg_name (i := 7) sc_law_parity.nd rfl (Or.inl rfl)) (fun _ _ _ _ _ => pts_nil) (fun _ _ _ _ _ => (C8.pe_c C_law_take hr (by decide) (by rfl) (pa_cons (pv 0) (pa_cons (pv 4) pa_nil)))))
      (pss_cons
      (ps_set (i := 6) sc_law_parity.nd rfl (Or.inl rfl) (pe_lst pa_nil))
      (pss_cons
      (ps_for PassesOwn.never rfl (pi_range1 (by rfl) T.z_range (pa_cons (pv 3) pa_nil)) (pg_name (i := 7) sc_law_parity.nd rfl (.inl rfl)) (pss_one
      (ps_expr (pe_bm PySem.F.plainAttrs_list PySem.F.slot_list_append PySem.F.type_list_append mt_append (pv 6) (pa_cons (pe_lc (own := [("letter", 8)]) (g := gName 8) (tt := tYes) rfl sc_law_parity.nd (pi_range1 (by rfl) T.z_range (pa_cons (pv 1) pa_nil)) (blkOk_by (N := N_law_parity) (sc := defScope s_law_parity) (by decide +kernel)) (fun _ _ _ _ _ => pg_name (i := 8) sc_law_parity.nd rfl (Or.inl rfl)) (fun _ _ _ _ _ => pts_nil) (fun _ _ _ _ _ => (C8.pe_c C_law_take hr (by decide) (by rfl) (pa_cons (pv 0) (pa_cons (pv 3) pa_nil))))) pa_nil)))))
      (pss_one
      (ps_ret (pe_tup (pa_cons (C8.pe_c C_law_take hr (by decide) (by rfl) (pa_cons (pv 0) (pa_cons (pv 3) pa_nil))) (pa_cons (pv 5) (pa_cons (pv 6) pa_nil))))))))))), ?_⟩
    refine ⟨_, rfl, _, rfl, d, m, rfl, hd, by omega, fun c ds c0 c1 => ?_⟩
    have k1 : Kp d H (upd H d (.lst (ds.map V.int))) := Kp.own
    have d1 : Drw (upd H d (.lst (ds.map V.int))) d := Drw.own
    generalize upd H d (.lst (ds.map V.int)) = H1 at *
    refine ⟨_, _, rfl, rfl, ?_⟩
    obtain ⟨n, hn⟩ : ∃ n : Nat, n = (1 + c).toNat := ⟨_, rfl⟩
    have en : (n : Int) = 1 + c := by omega
    have hn1 : 1 ≤ n := by omega
    have hnm : n ≤ m := by omega
    refine ⟨_, rfl, d, 4, rfl, d1, by decide, fun tp ds2 t0 t1 => ?_⟩
    have k2 : Kp d H (upd H1 d (.lst (ds2.map V.int))) := k1.trans Kp.own
    have d2 : Drw (upd H1 d (.lst (ds2.map V.int))) d := Drw.own
    generalize upd H1 d (.lst (ds2.map V.int)) = H2 at *
    clear d1 k1
    refine ⟨_, _, rfl, rfl, ?_⟩
    -- priorities
    refine ⟨_, rfl, _, rfl, by omega, by omega, fun D hD => ?_⟩
    have nDd : D ≠ d := fun z => by obtain ⟨o, y⟩ := d2; rw [← z, hD] at y; cases y
    refine lc_range (lo := 0) (n := (1 + c).toNat) (fun i H' => ∃ xs : List Int, Kp d H2 H' ∧ Drw H' d ∧ H' D = some (.lst (xs.map V.int)) ∧ xs.length = i ∧ ∀ x ∈ xs, 0 ≤ x)
      ⟨[], Kp.new hD, d2.new hD, upd_same, rfl, by simp⟩ ?_ ?_
    · rintro i H3 hi ⟨xs, k3, d3, e3, el, hx⟩
      refine ⟨rfl, _, rfl, _, rfl, d, _, rfl, d3, by omega, fun u us u0 u1 => ?_⟩
      refine ⟨xs.map V.int, by rw [upd_ne nDd]; exact e3, lenI (by omega), xs ++ [u], ?_, ?_, ?_, ?_, ?_⟩
      · intro b o nb hb
        rw [upd_ne (ne_of_none hb hD), upd_ne nb]
        exact k3 _ _ nb hb
      · exact ⟨us, by rw [upd_ne nDd.symm, upd_same]⟩
      · rw [upd_same, List.map_append]
        rfl
      · simp [el]
      · intro x hx2
        rcases List.mem_append.mp hx2 with z | z
        · exact hx x z
        · rw [List.mem_singleton.mp z]
          exact u0
    · rintro H3 ⟨ps, k3, d3, e3, el, hx⟩
      rw [← hn] at el
      refine ⟨Nat.zero_le _, fun r hr0 => ?_⟩
      have nrd : r ≠ d := fun z => by obtain ⟨o, y⟩ := d3; rw [← z, hr0] at y; cases y
      have nDr : D ≠ r := fun z => by rw [z, hr0] at e3; cases e3
      refine ⟨_, rfl, _, rfl, by omega, by omega, for_range (lo := 0) (n := (1 + c).toNat) (fun i σ H' => ∃ (as : List Addr) (rows : List (List Int)) (v7 : Option V), σ = [some (.ref d), some (.int L), some (.int m), some (.int (1 + c)), some (.int (1 + tp)), some (.ref D), some (.ref r), v7, none] ∧
          Kp d H3 H' ∧ Drw H' d ∧ H' D = some (.lst (ps.map V.int)) ∧ LL H' r as rows ∧ rows.length = i ∧ (∀ q ∈ rows, (q.length : Int) = L ∧ ∀ x ∈ q, 0 ≤ x ∧ x < (n : Int)) ∧ D ∉ as ∧ as.Nodup ∧ d ∉ as ∧ r ∉ as)
        ⟨[], [], none, rfl, Kp.new hr0, d3.new hr0, by rw [upd_ne nDr]; exact e3, ⟨upd_same, True.intro⟩, rfl, by simp, by simp, List.nodup_nil, by simp, by simp⟩ ?_ ?_⟩
      · rintro i σ H4 hi ⟨as, rows, v7, rfl, k4, d4, e4, L4, rl, hrw, n1, n2, n3, n4⟩
        refine ⟨_, rfl, .inl ⟨rfl, _, .of L4.1⟩, _, rfl, _, rfl, by omega, by omega, fun E1 hE => ?_⟩
        have nEd : E1 ≠ d := fun z => by obtain ⟨o, y⟩ := d4; rw [← z, hE] at y; cases y
        refine lc_range (lo := 0) (n := L.toNat) (fun j H' => ∃ xs : List Int, Kp d H4 H' ∧ Drw H' d ∧ H' E1 = some (.lst (xs.map V.int)) ∧ xs.length = j ∧ ∀ x ∈ xs, 0 ≤ x ∧ x < (n : Int))
          ⟨[], Kp.new hE, d4.new hE, upd_same, rfl, by simp⟩ ?_ ?_
        · rintro j H5 hj ⟨xs, k5, d5, e5, xl, hx5⟩
          refine ⟨rfl, _, rfl, _, rfl, d, _, rfl, d5, by omega, fun u us u0 u1 => ?_⟩
          refine ⟨xs.map V.int, by rw [upd_ne nEd]; exact e5, lenI (by omega), xs ++ [u], ?_, ?_, ?_, ?_, ?_⟩
          · intro b o nb hb
            rw [upd_ne (ne_of_none hb hE), upd_ne nb]
            exact k5 _ _ nb hb
          · exact ⟨us, by rw [upd_ne nEd.symm, upd_same]⟩
          · rw [upd_same, List.map_append]
            rfl
          · simp [xl]
          · intro x hx2
            rcases List.mem_append.mp hx2 with z | z
            · exact hx5 x z
            · rw [List.mem_singleton.mp z]
              exact ⟨u0, by omega⟩
        · rintro H5 ⟨xs, k5, d5, e5, xl, hx5⟩
          have nrE : r ≠ E1 := fun z => by have := L4.1; rw [z, hE] at this; cases this
          have nDE : D ≠ E1 := fun z => by rw [z, hE] at e4; cases e4
          have nEa : E1 ∉ as := fun z => by
            obtain ⟨o, y⟩ := rows_some L4.2 z
            rw [hE] at y
            cases y
          have bl := L4.2.len
          refine ⟨r, _, _, rfl, rfl, k5 _ _ nrd L4.1, by rw [List.length_map]; exact Nat.lt_of_le_of_lt (show as.length ≤ 1000 by omega) (by decide), ?_⟩
          refine ⟨as ++ [E1], rows ++ [xs], _, rfl, ?_, ?_, ?_, ⟨?_, ?_⟩, ?_, ?_, ?_, ?_, ?_, ?_⟩
          · intro b o nb hb
            rw [upd_ne (ne_of_none hb hr0)]
            exact k5 _ _ nb (k4 _ _ nb hb)
          · obtain ⟨o, y⟩ := d5
            exact ⟨o, by rw [upd_ne nrd.symm]; exact y⟩
          · rw [upd_ne nDr]
            exact k5 _ _ nDd e4
          · rw [upd_same, List.map_append]
            rfl
          · refine RowsA.snoc ?_ (My.RowsA.drop n4 (L4.2.keep fun b o hb h => k5 _ _ (fun z => n3 (by rw [← z]; exact hb)) h))
            rw [upd_ne nrE.symm]
            exact e5
          · simp [rl]
          · intro q hq
            rcases List.mem_append.mp hq with z | z
            · exact hrw q z
            · rw [List.mem_singleton.mp z]
              exact ⟨by omega, hx5⟩
          · intro z
            rcases List.mem_append.mp z with y | y
            · exact n1 y
            · exact nDE (List.mem_singleton.mp y)
          · refine List.nodup_append.mpr ⟨n2, by simp, fun a ha b hb => ?_⟩
            rw [List.mem_singleton.mp hb]
            exact fun z => nEa (by rw [← z]; exact ha)
          · intro z
            rcases List.mem_append.mp z with y | y
            · exact n3 y
            · exact nEd (List.mem_singleton.mp y).symm
          · intro z
            rcases List.mem_append.mp z with y | y
            · exact n4 y
            · exact nrE (List.mem_singleton.mp y)
      · rintro σ H4 ⟨as, rows, v7, rfl, k4, d4, e4, L4, rl, hrw, n1, n2, n3, n4⟩
        rw [← hn] at rl
        refine ⟨_, rfl, _, rfl, d, _, rfl, d4, by omega, fun st ds5 s0 s1 => ?_⟩
        have f1 : (upd H4 d (.lst (ds5.map V.int))) D = some (.lst (ps.map V.int)) := by rw [upd_ne nDd]; exact e4
        have f2 : LL (upd H4 d (.lst (ds5.map V.int))) r as rows := ⟨by rw [upd_ne nrd]; exact L4.1, My.RowsA.drop n3 L4.2⟩
        have f3 : Kp d H (upd H4 d (.lst (ds5.map V.int))) := ((k2.trans k3).trans k4).trans Kp.own
        have f4 : Drw (upd H4 d (.lst (ds5.map V.int))) d := Drw.own
        generalize upd H4 d (.lst (ds5.map V.int)) = H5 at *
        refine ⟨_, rfl, _, rfl, by show 3 ≤ sizeLine; decide, fun t ht => ?_⟩
        have s5 := same_new (o := .tup [.int st, .ref D, .ref r]) ht
        refine q _ t D r as st ps rows (f3.trans (Same.kp s5)) (f4.new ht) upd_same (s5 _ _ f1) (LL.same s5 f2) ⟨?_, rfl, List.nodup_cons.mpr ⟨n1, n2⟩, nDd.symm, nrd.symm, n3, nDr, n4⟩ (by omega)
        refine ⟨by omega, fun z => by rw [z] at rl; simp at rl; omega, by omega, by omega, fun q hq => ?_, hx⟩
        rw [rl]
        exact hrw q hq
theorem hp_kp {d p : Addr} {H H' : Hp} {o : HO} (k : Kp d H H') (n : d ≠ p) (h : H p = some o) : H' p = some o := k _ _ n.symm h
theorem ll_kp {d r : Addr} {H H' : Hp} {as : List Addr} {rows : List (List Int)} (k : Kp d H H') (n : d ≠ r) (m : d ∉ as) (h : LL H r as rows) : LL H' r as rows := ⟨k _ _ n.symm h.1, h.2.keep fun b o hb e => k _ _ (fun z => m (by rw [← z]; exact hb)) e⟩
def KL (S : List Addr) (H H' : Hp) : Prop := ∀ b o, b ∉ S → H b = some o → H' b = some o
theorem rows_kl {S : List Addr} {H H' : Hp} (k : KL S H H') (hs : ∀ b ∈ S, ∃ ys, H b = some (.lst ys)) : ∀ {as : List Addr} {rs : List (List Int)}, RowsA .tup H as rs → RowsA .tup H' as rs
  | [], [], _ => True.intro
  | a :: as, r :: rs, h => ⟨k _ _ (fun z => by obtain ⟨ys, y⟩ := hs a z; have := h.1; rw [y] at this; cases this) h.1, rows_kl k hs h.2⟩
  | [], _ :: _, h => h.elim
  | _ :: _, [], h => h.elim
theorem par_kl {C : Addr} {S : List Addr} {H H' : Hp} {x : Addr} {L s : Int} {ps : List Int} {rows : List (List Int)} (k : KL S H H') (hs : ∀ b ∈ S, ∃ ys, H b = some (.lst ys)) (h : ParAt C H x L s ps rows) : ParAt C H' x L s ps rows := by
  obtain ⟨dx, pt, rt, as, e1, e2, e3, e4⟩ := h
  refine ⟨dx, pt, rt, as, k _ _ (fun z => ?_) e1, k _ _ (fun z => ?_) e2, k _ _ (fun z => ?_) e3, rows_kl k hs e4⟩
  · obtain ⟨ys, y⟩ := hs _ z
    rw [y] at e1
    cases e1
  · obtain ⟨ys, y⟩ := hs _ z
    have e5 : H pt = some (.tup (ps.map V.int)) := e2
    rw [y] at e5
    cases e5
  · obtain ⟨ys, y⟩ := hs _ z
    rw [y] at e3
    cases e3
theorem ll_kl {S : List Addr} {H H' : Hp} {r : Addr} {as : List Addr} {rows : List (List Int)} (k : KL S H H') (n : r ∉ S) (m : ∀ a ∈ as, a ∉ S) (h : LL H r as rows) : LL H' r as rows := ⟨k _ _ n h.1, h.2.keep fun b o hb e => k _ _ (m b hb) e⟩
theorem vld_up {L s : Int} {ps : List Int} {rows : List (List Int)} (hv : Vld L s ps rows) : Vld L s (ps.map (· + 1)) rows := ⟨hv.1, hv.2.1, by rw [List.length_map]; exact hv.2.2.1, hv.2.2.2.1, hv.2.2.2.2.1, fun z hz => by
  obtain ⟨u, hu, rfl⟩ := List.mem_map.mp hz
  have := hv.2.2.2.2.2 u hu
  omega⟩
/-! runs of a parity automaton: plain mathematics -/
def dl (rows : List (List Int)) (s a : Int) : Int := (rows.getD s.toNat []).getD a.toNat 0
def rdw (rows : List (List Int)) (w : List Int) (s : Int) : Int := w.foldl (dl rows) s
def vb (rows : List (List Int)) : List Int → Int → List Int
  | [], _ => []
  | a :: w, s => s :: vb rows w (dl rows s a)
def va (rows : List (List Int)) : List Int → Int → List Int
  | [], _ => []
  | a :: w, s => dl rows s a :: va rows w (dl rows s a)
def orb (rows : List (List Int)) (w : List Int) (s : Int) : Nat → Int
  | 0 => s
  | i + 1 => rdw rows w (orb rows w s i)
def pri (ps : List Int) (x : Int) : Int := ps.getD x.toNat 0
section
variable {rows : List (List Int)} {ps w : List Int} {s : Int}
theorem rdw_append (u v : List Int) : rdw rows (u ++ v) s = rdw rows v (rdw rows u s) := List.foldl_append
theorem rdw_snoc {i : Nat} {a : Int} (h : w[i]? = some a) : rdw rows (w.take (i + 1)) s = dl rows (rdw rows (w.take i) s) a := by
  rw [take_get h, rdw_append]
  rfl
theorem vb_append : ∀ (u v : List Int) (s : Int), vb rows (u ++ v) s = vb rows u s ++ vb rows v (rdw rows u s)
  | [], _, _ => rfl
  | a :: u, v, s => by
    show s :: vb rows (u ++ v) (dl rows s a) = s :: (vb rows u (dl rows s a) ++ vb rows v (rdw rows u (dl rows s a)))
    rw [vb_append u v]
theorem va_append : ∀ (u v : List Int) (s : Int), va rows (u ++ v) s = va rows u s ++ va rows v (rdw rows u s)
  | [], _, _ => rfl
  | a :: u, v, s => by
    show dl rows s a :: va rows (u ++ v) (dl rows s a) = dl rows s a :: (va rows u (dl rows s a) ++ va rows v (rdw rows u (dl rows s a)))
    rw [va_append u v]
theorem vb_snoc {i : Nat} {a : Int} (h : w[i]? = some a) : vb rows (w.take (i + 1)) s = vb rows (w.take i) s ++ [rdw rows (w.take i) s] := by
  rw [take_get h, vb_append]
  rfl
theorem va_snoc {i : Nat} {a : Int} (h : w[i]? = some a) : va rows (w.take (i + 1)) s = va rows (w.take i) s ++ [dl rows (rdw rows (w.take i) s) a] := by
  rw [take_get h, va_append]
  rfl
theorem vb_va : ∀ {w : List Int} {s x : Int}, x ∈ vb rows w s → x = s ∨ x ∈ va rows w s
  | [], _, _, h => by simp [vb] at h
  | a :: w, s, x, h => by
    rcases List.mem_cons.mp h with z | z
    · exact .inl z
    · rcases vb_va z with y | y
      · exact .inr (by rw [y]; exact List.mem_cons_self)
      · exact .inr (List.mem_cons_of_mem _ y)
theorem va_vb : ∀ {w : List Int} {s x : Int}, x ∈ va rows w s → x ∈ vb rows w s ∨ x = rdw rows w s
  | [], _, _, h => by simp [va] at h
  | [a], s, x, h => by
    rcases List.mem_cons.mp h with z | z
    · exact .inr z
    · simp [va] at z
  | a :: b :: w, s, x, h => by
    rcases List.mem_cons.mp h with z | z
    · exact .inl (List.mem_cons_of_mem _ (by rw [z]; exact List.mem_cons_self))
    · rcases va_vb (w := b :: w) z with y | y
      · exact .inl (List.mem_cons_of_mem _ y)
      · exact .inr y
theorem va_last : ∀ {w : List Int} {s : Int}, w ≠ [] → rdw rows w s ∈ va rows w s
  | [], _, h => absurd rfl h
  | [a], s, _ => List.mem_cons_self
  | a :: b :: w, s, _ => List.mem_cons_of_mem _ (va_last (w := b :: w) (by simp))
theorem vb_head {w : List Int} {s : Int} (h : w ≠ []) : s ∈ vb rows w s := by
  cases w with
  | nil => exact absurd rfl h
  | cons a w => exact List.mem_cons_self
structure Bst (rows : List (List Int)) (ps w : List Int) (s b : Int) : Prop where
  up : ∃ k, ∀ j, k ≤ j → ∀ x ∈ vb rows w (orb rows w s j), pri ps x ≤ b
  at_ : ∃ x, pri ps x = b ∧ ∀ k, ∃ j, k ≤ j ∧ x ∈ vb rows w (orb rows w s j)
theorem Bst.le {b c : Int} (h : Bst rows ps w s b) (g : Bst rows ps w s c) : b ≤ c := by
  obtain ⟨k, hk⟩ := g.up
  obtain ⟨x, hx, hi⟩ := h.at_
  obtain ⟨j, hj, hm⟩ := hi k
  rw [← hx]
  exact hk j hj x hm
theorem Bst.uniq {b c : Int} (h : Bst rows ps w s b) (g : Bst rows ps w s c) : b = c := Int.le_antisymm (h.le g) (g.le h)
theorem orb_per {m p : Nat} (h : orb rows w s (m + p) = orb rows w s m) : ∀ j, m ≤ j → orb rows w s (j + p) = orb rows w s j := by
  intro j hj
  obtain ⟨d, rfl⟩ : ∃ d, j = m + d := ⟨j - m, by omega⟩
  clear hj
  induction d with
  | zero => exact h
  | succ d ih =>
    rw [show m + (d + 1) + p = (m + d + p) + 1 by omega]
    show rdw rows w (orb rows w s (m + d + p)) = rdw rows w (orb rows w s (m + d))
    rw [ih]
theorem orb_mul {m p : Nat} (h : orb rows w s (m + p) = orb rows w s m) (j k : Nat) (hj : m ≤ j) : orb rows w s (j + k * p) = orb rows w s j := by
  induction k with
  | zero => rw [Nat.zero_mul, Nat.add_zero]
  | succ k ih => rw [Nat.succ_mul, ← Nat.add_assoc, orb_per h _ (by omega), ih]
/-- later turns come back to p turns from i on -/
theorem orb_back {m p i : Nat} (h : orb rows w s (m + p) = orb rows w s m) (hp : 0 < p) (hi : m ≤ i) (j : Nat) (hj : i ≤ j) : ∃ r, i ≤ r ∧ r < i + p ∧ orb rows w s j = orb rows w s r := by
  refine ⟨i + (j - i) % p, by omega, by have := Nat.mod_lt (j - i) hp; omega, ?_⟩
  have e : j = (i + (j - i) % p) + ((j - i) / p) * p := by
    have := Nat.mod_add_div (j - i) p
    rw [Nat.mul_comm] at this
    omega
  conv => lhs; rw [e]
  exact orb_mul h _ _ (by omega)
/-- by the rounds m .. N - 1, where round N begins as round m -/
theorem bst_prog {m N : Nat} {b : Int} {gs : List Int} (hmN : m < N) (h : orb rows w s N = orb rows w s m) (hl : gs.length = N)
    (hg : ∀ j g, gs[j]? = some g → (∀ x ∈ vb rows w (orb rows w s j), pri ps x ≤ g) ∧ ∃ x ∈ vb rows w (orb rows w s j), pri ps x = g)
    (hb : b ∈ gs.drop m) (hmax : ∀ y ∈ gs.drop m, y ≤ b) : Bst rows ps w s b := by
  have h' : orb rows w s (m + (N - m)) = orb rows w s m := by rw [Nat.add_sub_cancel' (by omega)]; exact h
  constructor
  · refine ⟨m, fun j hj x hx => ?_⟩
    obtain ⟨r, r1, r2, r3⟩ := orb_back h' (by omega) (Nat.le_refl m) j hj
    rw [r3] at hx
    obtain ⟨g, hgr⟩ : ∃ g, gs[r]? = some g := ⟨_, List.getElem?_eq_getElem (by omega)⟩
    have h1 := (hg r g hgr).1 x hx
    have h2 := hmax g (List.mem_of_getElem? (i := r - m) (by rw [List.getElem?_drop, Nat.add_sub_cancel' r1]; exact hgr))
    omega
  · obtain ⟨i, hi⟩ := List.mem_iff_getElem?.mp hb
    rw [List.getElem?_drop] at hi
    obtain ⟨x, hx, hp⟩ := (hg _ _ hi).2
    refine ⟨x, hp, fun k => ⟨(m + i) + k * (N - m), ?_, ?_⟩⟩
    · have : k ≤ k * (N - m) := Nat.le_mul_of_pos_right k (by omega)
      omega
    · rw [orb_mul h' _ _ (by omega)]
      exact hx
theorem nodup_le : ∀ (n : Nat) (l : List Nat), l.Nodup → (∀ x ∈ l, x < n) → l.length ≤ n
  | 0, l, _, h => by
    cases l with
    | nil => exact Nat.le_refl _
    | cons a l => exact absurd (h a List.mem_cons_self) (Nat.not_lt_zero _)
  | n + 1, l, hd, h => by
    by_cases c : n ∈ l
    · have := nodup_le n (l.erase n) (hd.erase n) fun x hx => by
        have h1 := (hd.mem_erase_iff).mp hx
        have h2 := h x h1.2
        have := h1.1
        omega
      rw [List.length_erase_of_mem c] at this
      omega
    · have := nodup_le n l hd fun x hx => by
        have h2 := h x hx
        have : x ≠ n := fun z => c (by rw [← z]; exact hx)
        omega
      omega
theorem orb_nodup_le {n N : Nat} (hr : ∀ i, 0 ≤ orb rows w s i ∧ orb rows w s i < (n : Int)) (hd : ∀ i j, i < j → j < N → orb rows w s i ≠ orb rows w s j) : N ≤ n := by
  have h := nodup_le n ((List.range N).map fun i => (orb rows w s i).toNat) (by
    unfold List.Nodup
    rw [List.pairwise_map]
    refine List.Pairwise.imp_of_mem (R := fun a b => a < b) (fun {a b} ha hb hab => ?_) List.pairwise_lt_range
    have h1 := hr a
    have h2 := hr b
    have h3 := hd a b hab (List.mem_range.mp hb)
    omega) (fun x hx => by
    obtain ⟨i, hi, rfl⟩ := List.mem_map.mp hx
    have := hr i
    omega)
  rw [List.length_map, List.length_range] at h
  exact h
theorem orb_pigeon {n : Nat} (hr : ∀ i, 0 ≤ orb rows w s i ∧ orb rows w s i < (n : Int)) : ∃ m N, m < N ∧ N ≤ n ∧ orb rows w s N = orb rows w s m := by
  by_cases c : ∃ m N, m < N ∧ N ≤ n ∧ orb rows w s N = orb rows w s m
  · exact c
  · exfalso
    have := orb_nodup_le (N := n + 1) hr fun i j hij hj e => c ⟨i, j, hij, by omega, e.symm⟩
    omega
theorem pri_nonneg (h : ∀ p ∈ ps, 0 ≤ p) (x : Int) : 0 ≤ pri ps x := by
  unfold pri
  rw [List.getD_eq_getElem?_getD]
  cases e : ps[x.toNat]? with
  | none => exact Int.le_refl 0
  | some y => exact h y (List.mem_of_getElem? e)
/-- by n rounds after n rounds, priorities behind each letter -/
theorem bst_law {n : Nat} {b : Int} (hn : 0 < n) (hw : w ≠ []) (hr : ∀ i, 0 ≤ orb rows w s i ∧ orb rows w s i < (n : Int)) (hp : ∀ p ∈ ps, 0 ≤ p)
    (hup : ∀ i, n ≤ i → i < n + n → ∀ x ∈ va rows w (orb rows w s i), pri ps x ≤ b) (h0 : b = 0 ∨ ∃ i x, n ≤ i ∧ x ∈ va rows w (orb rows w s i) ∧ pri ps x = b) : Bst rows ps w s b := by
  obtain ⟨m, N, hmN, hNn, h⟩ := orb_pigeon hr
  have h' : orb rows w s (m + (N - m)) = orb rows w s m := by rw [Nat.add_sub_cancel' (by omega)]; exact h
  have hva : ∀ i, n ≤ i → ∀ x ∈ va rows w (orb rows w s i), pri ps x ≤ b := fun i hi x hx => by
    obtain ⟨r, r1, r2, r3⟩ := orb_back h' (by omega) (show m ≤ n by omega) i hi
    rw [r3] at hx
    exact hup r r1 (by omega) x hx
  have inf : ∀ i x, n ≤ i → x ∈ va rows w (orb rows w s i) → ∀ k, ∃ j, k ≤ j ∧ x ∈ vb rows w (orb rows w s j) := fun i x hi hx k => by
    have step : ∀ i, n ≤ i → x ∈ vb rows w (orb rows w s i) → ∃ j, k ≤ j ∧ x ∈ vb rows w (orb rows w s j) := fun i hi hx => by
      refine ⟨i + k * (N - m), ?_, ?_⟩
      · have : k ≤ k * (N - m) := Nat.le_mul_of_pos_right k (by omega)
        omega
      · rw [orb_mul h' _ _ (by omega)]
        exact hx
    rcases va_vb hx with y | y
    · exact step i hi y
    · refine step (i + 1) (by omega) ?_
      rw [y]
      exact vb_head hw
  constructor
  · refine ⟨n + 1, fun j hj x hx => ?_⟩
    rcases vb_va hx with y | y
    · obtain ⟨i, rfl⟩ : ∃ i, j = i + 1 := ⟨j - 1, by omega⟩
      refine hva i (by omega) x ?_
      rw [y]
      exact va_last hw
    · exact hva j (by omega) x y
  · rcases h0 with z | ⟨i, x, hi, hx, e⟩
    · have l1 := va_last (rows := rows) (s := orb rows w s n) hw
      have l2 := hva n (Nat.le_refl _) _ l1
      have l3 := pri_nonneg hp (rdw rows w (orb rows w s n))
      exact ⟨_, by omega, inf n _ (Nat.le_refl _) l1⟩
    · exact ⟨x, e, inf i x hi hx⟩
theorem pri_up {n : Nat} (hl : ps.length = n) {x : Int} (h0 : 0 ≤ x) (h : x < (n : Int)) : pri (ps.map (· + 1)) x = pri ps x + 1 := by
  unfold pri
  have hx : x.toNat < ps.length := by omega
  rw [List.getD_eq_getElem?_getD, List.getD_eq_getElem?_getD, List.getElem?_map, List.getElem?_eq_getElem hx]
  rfl
theorem vb_range {n : Nat} {L : Int} (hd : ∀ s a, 0 ≤ s → s < (n : Int) → 0 ≤ a → a < L → 0 ≤ dl rows s a ∧ dl rows s a < (n : Int)) : ∀ {w : List Int} {s : Int}, (∀ a ∈ w, 0 ≤ a ∧ a < L) → 0 ≤ s → s < (n : Int) → (∀ x ∈ vb rows w s, 0 ≤ x ∧ x < (n : Int)) ∧ (0 ≤ rdw rows w s ∧ rdw rows w s < (n : Int))
  | [], s, _, h0, h1 => ⟨by simp [vb], h0, h1⟩
  | a :: w, s, hw, h0, h1 => by
    have ha := hw a List.mem_cons_self
    have hs := hd s a h0 h1 ha.1 ha.2
    have ih := vb_range hd (w := w) (fun b hb => hw b (List.mem_cons_of_mem _ hb)) hs.1 hs.2
    refine ⟨fun x hx => ?_, ih.2⟩
    rcases List.mem_cons.mp hx with z | z
    · rw [z]; exact ⟨h0, h1⟩
    · exact ih.1 x z
theorem orb_range {n : Nat} {L : Int} (hd : ∀ s a, 0 ≤ s → s < (n : Int) → 0 ≤ a → a < L → 0 ≤ dl rows s a ∧ dl rows s a < (n : Int)) (hw : ∀ a ∈ w, 0 ≤ a ∧ a < L) (h0 : 0 ≤ s) (h1 : s < (n : Int)) : ∀ i, 0 ≤ orb rows w s i ∧ orb rows w s i < (n : Int)
  | 0 => ⟨h0, h1⟩
  | i + 1 => (vb_range hd hw (orb_range hd hw h0 h1 i).1 (orb_range hd hw h0 h1 i).2).2
/-- one more on every priority -/
theorem Bst.up1 {n : Nat} {b : Int} (hl : ps.length = n) (hr : ∀ i, ∀ x ∈ vb rows w (orb rows w s i), 0 ≤ x ∧ x < (n : Int)) (h : Bst rows ps w s b) : Bst rows (ps.map (· + 1)) w s (b + 1) := by
  obtain ⟨k, hk⟩ := h.up
  obtain ⟨x, hx, hi⟩ := h.at_
  refine ⟨⟨k, fun j hj y hy => ?_⟩, x, ?_, hi⟩
  · rw [pri_up hl (hr j y hy).1 (hr j y hy).2]
    have := hk j hj y hy
    omega
  · obtain ⟨j, _, hm⟩ := hi 0
    rw [pri_up hl (hr j x hm).1 (hr j x hm).2, hx]
theorem dl_ok {L st : Int} (hv : Vld L st ps rows) {s a : Int} (h0 : 0 ≤ s) (h1 : s < (rows.length : Int)) (h2 : 0 ≤ a) (h3 : a < L) : 0 ≤ dl rows s a ∧ dl rows s a < (rows.length : Int) := by
  have hs : s.toNat < rows.length := by omega
  have hm : rows[s.toNat] ∈ rows := List.getElem_mem hs
  obtain ⟨r1, r2⟩ := hv.2.2.2.2.1 _ hm
  have ha : a.toNat < rows[s.toNat].length := by omega
  unfold dl
  rw [List.getD_eq_getElem?_getD (l := rows), List.getElem?_eq_getElem hs]
  show 0 ≤ rows[s.toNat].getD a.toNat 0 ∧ rows[s.toNat].getD a.toNat 0 < (rows.length : Int)
  rw [List.getD_eq_getElem?_getD, List.getElem?_eq_getElem ha]
  exact r2 _ (List.getElem_mem ha)
end
theorem cal_checkX {cL : Addr} (T : Txt K mg) (eL : ErrC K mg "InvalidLetter" cL) : CalX P w K mg base 1 "check_letters" (spCheckX cL) := by
  obtain ⟨f, fd, F, hm, hb⟩ := T.h_check_letters
  refine ⟨f, fd, _, F.okX sc_check_letters (fun vs H Q E h => ?_) (fun cdv A outer s H vs Q E hr h => ?_), hm, F.kp, hb⟩
  · obtain ⟨p, h, l, n, rfl, _⟩ := h
    rfl
  · obtain ⟨p, h, l, n, rfl, ⟨a, b, e1, e2, e3⟩, hne, hh, hl, q1, q2⟩ := h
    have t2 : TupI H a h := e2
    have t3 : TupI H b l := e3
    refine ⟨_, (pss_cons
      (ps_asg (pv 0) (pg_tup (by rfl) (pgs_cons (pg_name (i := 2) sc_check_letters.nd rfl (.inl rfl)) (pgs_cons (pg_name (i := 3) sc_check_letters.nd rfl (.inl rfl)) pgs_nil))))
      (pss_one
      (ps_if (pt_cmpR op_ge (pe_callB (call_maxT (K := K) rfl rfl) (by rfl) T.z_max (by decide +kernel) (pa_cons (pe_op (op_catK (K := K) rfl) (pv 2) (pv 3)) pa_nil)) (pv 1) (nomark _)) (pss_one
      (ps_raise rfl (takes_of rfl rfl rfl rfl) (eL.made rfl))) pss_nil))), ?_⟩
    refine ⟨_, rfl, p, _, rfl, .of e1, rfl, _, _, rfl, _, _, rfl, rfl, ?_⟩
    refine ⟨_, rfl, _, rfl, ?_⟩
    refine catq t2 t3 (by omega) fun H1 p1 s1 e4 => ?_
    refine ⟨p1, h ++ l, rfl, .of e4, fun z => hne (List.append_eq_nil_iff.mp z).2, fun m hm hmax => ⟨_, rfl, _, _, rfl, rfl, _, rfl, ?_⟩⟩
    refine ite2 (fun c => ?_) (fun c => ?_)
    · exact q1 ⟨m, List.mem_append.mp hm, of_decide_eq_true c⟩ H1 s1
    · refine q2 (fun x hx => ?_) H1 s1
      have x1 := hmax x (List.mem_append.mpr hx)
      have x2 : ¬ (n : Int) ≤ m := fun z => c (decide_eq_true z)
      omega
theorem rows_at {mk : List V → HO} {H : Hp} {as : List Addr} {rows : List (List Int)} {s : Int} (h : RowsA mk H as rows) (h0 : 0 ≤ s) (h1 : s < (rows.length : Int)) : ∃ a row, atI (as.map V.ref) s = some (.ref a) ∧ H a = some (mk (row.map V.int)) ∧ rows.getD s.toNat [] = row ∧ row ∈ rows := by
  have hl := h.len
  obtain ⟨a, ha⟩ : ∃ a, as[s.toNat]? = some a := ⟨_, List.getElem?_eq_getElem (by omega)⟩
  obtain ⟨row, hr, hH⟩ := h.get ha
  refine ⟨a, row, ?_, hH, ?_, List.mem_of_getElem? hr⟩
  · rw [show s = ((s.toNat : Nat) : Int) by omega]
    exact atI_nat (by rw [List.getElem?_map, ha]; rfl)
  · rw [List.getD_eq_getElem?_getD, hr]
    rfl
theorem int_at {xs : List Int} {s : Int} (h0 : 0 ≤ s) (h1 : s < (xs.length : Int)) : atI (xs.map V.int) s = some (.int (xs.getD s.toNat 0)) := by
  have e : s = ((s.toNat : Nat) : Int) := by omega
  have := at_map (xs := xs) (j := s.toNat) (by omega)
  rw [show atI (xs.map V.int) s = atI (xs.map V.int) ((s.toNat : Nat) : Int) by rw [← e]]
  exact atI_nat this
theorem dl_at {L st : Int} {ps : List Int} {rows : List (List Int)} {mk : List V → HO} {H : Hp} {as : List Addr} (h : RowsA mk H as rows) (hv : Vld L st ps rows) {s z : Int} (h0 : 0 ≤ s) (h1 : s < (rows.length : Int)) (h2 : 0 ≤ z) (h3 : z < L) :
    ∃ (a : Addr) (row : List Int), atI (as.map V.ref) s = some (.ref a) ∧ H a = some (mk (row.map V.int)) ∧ atI (row.map V.int) z = some (.int (dl rows s z)) := by
  obtain ⟨a, row, r1, r2, r3, r4⟩ := rows_at h h0 h1
  have := (hv.2.2.2.2.1 row r4).1
  refine ⟨a, row, r1, r2, ?_⟩
  unfold dl
  rw [r3]
  exact int_at h2 (by omega)
def Mx (ps xs : List Int) (g : Int) : Prop := (∀ x ∈ xs, pri ps x ≤ g) ∧ ∃ x ∈ xs, pri ps x = g
/-- the greatest so far, 0 at the start -/
def Mz (ps xs : List Int) (g : Int) : Prop := 0 ≤ g ∧ (∀ x ∈ xs, pri ps x ≤ g) ∧ (g = 0 ∨ ∃ x ∈ xs, pri ps x = g)
theorem Mz.step {ps xs : List Int} {g x : Int} (h : Mz ps xs g) : Mz ps (xs ++ [x]) (if pri ps x > g then pri ps x else g) := by
  obtain ⟨h1, h2, h3⟩ := h
  by_cases c : pri ps x > g
  · rw [if_pos c]
    refine ⟨by omega, fun y hy => ?_, .inr ⟨x, by simp, rfl⟩⟩
    rcases List.mem_append.mp hy with z | z
    · have := h2 y z
      omega
    · rw [List.mem_singleton.mp z]
      exact Int.le_refl _
  · rw [if_neg c]
    refine ⟨h1, fun y hy => ?_, ?_⟩
    · rcases List.mem_append.mp hy with z | z
      · exact h2 y z
      · rw [List.mem_singleton.mp z]
        omega
    · rcases h3 with z | ⟨y, hy, z⟩
      · exact .inl z
      · exact .inr ⟨y, List.mem_append.mpr (.inl hy), z⟩
theorem Mz.mx {ps xs : List Int} {g : Int} (h : Mz ps xs g) (hn : xs ≠ []) (hp : ∀ p ∈ ps, 0 ≤ p) : Mx ps xs g := by
  obtain ⟨h1, h2, h3⟩ := h
  refine ⟨h2, ?_⟩
  rcases h3 with z | z
  · obtain ⟨x, hx⟩ := List.exists_mem_of_ne_nil xs hn
    have a1 := h2 x hx
    have a2 := pri_nonneg hp x
    exact ⟨x, hx, by omega⟩
  · exact z
def spAcc (C cL : Addr) : Sp := fun vs H Q E => ∃ (x p : Addr) (L s : Int) (ps : List Int) (rows : List (List Int)) (h l : List Int), vs = [.ref x, .ref p] ∧ ParAt C H x L s ps rows ∧ Vld L s ps rows ∧ rows.length ≤ 1000 ∧ Las H p h l ∧ l ≠ [] ∧ h.length ≤ 1000 ∧ l.length ≤ 1000 ∧ (∀ a, a ∈ h ∨ a ∈ l → 0 ≤ a) ∧
  ((∃ a, (a ∈ h ∨ a ∈ l) ∧ L ≤ a) → ∀ H', Same H H' → E (.ref cL) none H') ∧ ((∀ a, a ∈ h ∨ a ∈ l → a < L) → ∀ (H' : Hp) (b : Int), Same H H' → Bst rows ps l (rdw rows h s) b → Q (.bl (decide (V.int (b % 2) = V.int 0))) H')
theorem cal_acc {C cL : Addr} (T : Txt K mg) (eL : ErrC K mg "InvalidLetter" cL) (PC : ParC K C) : CalX P w K mg base 2 "accepts_parity" (spAcc C cL) := by
  have X_check_letters : CalX P w K mg base 1 "check_letters" (spCheckX cL) := cal_checkX T eL
  obtain ⟨f, fd, F, hm, hb⟩ := T.h_accepts_parity
  refine ⟨f, fd, _, F.okX sc_accepts_parity (fun vs H Q E h => ?_) (fun cdv A outer s H vs Q E hr h => ?_), hm, F.kp, hb⟩
  · obtain ⟨x, p, L, st, ps, rows, h, l, rfl, _⟩ := h
    rfl
  · obtain ⟨x, p, L, st, ps, rows, h, l, rfl, hP, hv, b1, hL, hne, hh, hl, hnn, q1, q2⟩ := h
    refine ⟨_, (pss_cons
      (ps_expr (pe_cx X_check_letters hr (by decide) (takes_of rfl rfl rfl rfl) (by rfl) (pa_cons (pv 1) (pa_cons (pe_fld (pv 0) rfl) pa_nil))))
      (pss_cons
      (ps_asg (pv 1) (pg_tup (by rfl) (pgs_cons (pg_name (i := 2) sc_accepts_parity.nd rfl (.inl rfl)) (pgs_cons (pg_name (i := 3) sc_accepts_parity.nd rfl (.inl rfl)) pgs_nil))))
      (pss_cons
      (ps_set (i := 4) sc_accepts_parity.nd rfl (Or.inl rfl) (pe_fld (pv 0) rfl))
      (pss_cons
      (ps_for (passes_of rfl) rfl (pi_tup (pv 2)) (pg_name (i := 5) sc_accepts_parity.nd rfl (.inl rfl)) (pss_one
      (ps_set (i := 4) sc_accepts_parity.nd rfl (Or.inl rfl) (pe_ix (ix_tupK (K := K) rfl) (pe_ix (ix_tupK (K := K) rfl) (pe_fld (pv 0) rfl) (pv 4) (fun _ _ => rfl)) (pv 5) (fun _ _ => rfl)))))
      (pss_cons
      (ps_set (i := 6) sc_accepts_parity.nd rfl (Or.inl rfl) pe_dnewK)
      (pss_cons
      (ps_set (i := 7) sc_accepts_parity.nd rfl (Or.inl rfl) (pe_lst pa_nil))
      (C8.pss_cut
      (ps_while (passes_of rfl) (pt_cmp (pc_dnotin (hu_of hr) (pv 4) (pv 6))) (pss_cons
      (ps_dput (hu_of hr) (pv 6) (pv 4) (pe_callB (call_lenK (K := K) rfl) (by rfl) T.z_len PySem.boot_len (pa_cons (pv 7) pa_nil)) rfl)
      (pss_cons
      (ps_set (i := 8) sc_accepts_parity.nd rfl (Or.inl rfl) pe_int)
      (pss_cons
      (ps_for (passes_of rfl) rfl (pi_tup (pv 3)) (pg_name (i := 5) sc_accepts_parity.nd rfl (.inl rfl)) (pss_cons
      (ps_set (i := 8) sc_accepts_parity.nd rfl (Or.inl rfl) (pe_callB (call_max2 rfl) (by rfl) T.z_max (by decide +kernel) (pa_cons (pv 8) (pa_cons (pe_ix (ix_tupK (K := K) rfl) (pe_fld (pv 0) rfl) (pv 4) (fun _ _ => rfl)) pa_nil))))
      (pss_one
      (ps_set (i := 4) sc_accepts_parity.nd rfl (Or.inl rfl) (pe_ix (ix_tupK (K := K) rfl) (pe_ix (ix_tupK (K := K) rfl) (pe_fld (pv 0) rfl) (pv 4) (fun _ _ => rfl)) (pv 5) (fun _ _ => rfl))))))
      (pss_one
      (ps_expr (pe_bm PySem.F.plainAttrs_list PySem.F.slot_list_append PySem.F.type_list_append mt_append (pv 7) (pa_cons (pv 8) pa_nil))))))))
      (pss_one
      (ps_ret (pe_cmpR op_eq (pe_op op_mod (pe_callB (call_maxK (K := K) rfl rfl) (by rfl) T.z_max (by decide +kernel) (pa_cons (pe_slice (sl_listK (K := K) rfl) (pv 7) (po_some (pe_dget (hu_of hr) (pv 6) (pv 4) (fun _ _ => rfl))) po_none) pa_nil)) pe_int) pe_int (nomark _))))))))))), ?_⟩
    obtain ⟨dx, pt, rt, as, e1, e2, e3, e4⟩ := id hP
    refine ⟨_, rfl, _, rfl, x, C, dx, _, _, rfl, e1, PC.cl, PC.nL, pf_L _ _ _ _, p, h, l, L, rfl, hL, hne, hh, hl, q1, fun hlt H1 s1 => ?_⟩
    have q3 := q2 hlt
    clear q1 q2
    have e1 := s1 _ _ e1
    have e2 := s1 _ _ e2
    have e3 := s1 _ _ e3
    have e4 := e4.same s1
    obtain ⟨a, b, f1, f2, f3⟩ := hL.same s1
    have hd : ∀ s a, 0 ≤ s → s < (rows.length : Int) → 0 ≤ a → a < L → 0 ≤ dl rows s a ∧ dl rows s a < (rows.length : Int) := fun s a h0 h1 h2 h3 => dl_ok hv h0 h1 h2 h3
    have hs0 := hv.2.2.2.1
    have hhd : ∀ a ∈ h, 0 ≤ a ∧ a < L := fun a ha => ⟨hnn a (.inl ha), hlt a (.inl ha)⟩
    have hlp : ∀ a ∈ l, 0 ≤ a ∧ a < L := fun a ha => ⟨hnn a (.inr ha), hlt a (.inr ha)⟩
    refine ⟨_, rfl, p, _, rfl, .of f1, rfl, _, _, rfl, _, _, rfl, rfl, ?_⟩
    refine ⟨_, rfl, x, C, dx, _, _, rfl, e1, PC.cl, PC.nS, pf_s _ _ _ _, ?_⟩
    refine ⟨_, rfl, a, rfl, ⟨_, .of f2⟩, for_tup (K := K) (a := a) (xs := h.map V.int) (fun i σ H' => ∃ v5 : Option V, σ = [some (.ref x), some (.ref p), some (.ref a), some (.ref b), some (.int (rdw rows (h.take i) st)), v5, none, none, none] ∧ H' = H1)
      ⟨none, rfl, rfl⟩ (fun i σ H' _ ⟨_, _, z⟩ => by rw [z]; exact .of f2) ?_ ?_⟩
    · rintro i y σ H' hi ⟨v5, rfl, rfl⟩
      obtain ⟨z, hz, rfl⟩ := ints_get hi
      have rg := (vb_range hd (w := h.take i) (fun a ha => hhd a (List.mem_of_mem_take ha)) hs0.1 hs0.2).2
      have hz2 := hhd z (List.mem_of_getElem? hz)
      obtain ⟨a2, row, r1, r2, r3⟩ := dl_at e4 hv rg.1 rg.2 hz2.1 hz2.2
      refine ⟨_, rfl, x, C, dx, _, _, rfl, e1, PC.cl, PC.nR, pf_r _ _ _ _, _, rfl, rt, _, _, .ref a2, rfl, rfl, .of e3, r1, _, rfl, a2, _, _, _, rfl, rfl, .of r2, r3, some (.int z), ?_, rfl⟩
      rw [rdw_snoc hz]
      rfl
    · rintro σ H' ⟨v5, rfl, rfl⟩
      rw [List.length_map, List.take_length]
      refine fun N hN => ?_
      refine ⟨Nat.zero_le _, fun G hG => ?_⟩
      have hl0 : 0 ≤ rdw rows h st ∧ rdw rows h st < (rows.length : Int) := (vb_range hd (w := h) hhd hs0.1 hs0.2).2
      generalize rdw rows h st = s0 at *
      have hor := orb_range (w := l) hd hlp hl0.1 hl0.2
      have nNG : N ≠ G := fun z => by rw [← z, upd_same] at hG; cases hG
      have hG0 : H' G = none := (same_new hN).free hG
      have sA : Same H' (upd (upd H' N (.dK [])) G (.lst [])) := (same_new hN).trans (same_new hG)
      refine ⟨fun σ H2 => ∃ (i m5 : Nat) (kvs : List (Key × V)) (gs : List Int) (v5 v8 : Option V), σ = [some (.ref x), some (.ref p), some (.ref a), some (.ref b), some (.int (orb rows l s0 i)), v5, some (.ref N), some (.ref G), v8] ∧ Same H' H2 ∧ H2 N = some (.dK kvs) ∧ H2 G = some (.lst (gs.map V.int)) ∧ gs.length = i ∧ i ≤ rows.length ∧
          (∀ j g, gs[j]? = some g → Mx ps (vb rows l (orb rows l s0 j)) g) ∧ m5 < i ∧ orb rows l s0 i = orb rows l s0 m5 ∧ valV kvs (.inl (orb rows l s0 i)) = some (.int (m5 : Nat)), ?_, ?_⟩
      · refine ⟨fun m σ H2 => ∃ (i : Nat) (kvs : List (Key × V)) (gs : List Int) (v5 v8 : Option V), m = rows.length + 1 - i ∧ σ = [some (.ref x), some (.ref p), some (.ref a), some (.ref b), some (.int (orb rows l s0 i)), v5, some (.ref N), some (.ref G), v8] ∧ Same H' H2 ∧ H2 N = some (.dK kvs) ∧ H2 G = some (.lst (gs.map V.int)) ∧ gs.length = i ∧ i ≤ rows.length ∧
          (∀ j g, gs[j]? = some g → Mx ps (vb rows l (orb rows l s0 j)) g) ∧ kvs.length ≤ i ∧ (∀ j, j < i → valV kvs (.inl (orb rows l s0 j)) = some (.int (j : Nat))) ∧ (∀ z : Int, valV kvs (.inl z) ≠ none → ∃ j, j < i ∧ orb rows l s0 j = z) ∧ (∀ j j', j < j' → j' < i → orb rows l s0 j ≠ orb rows l s0 j'),
          ⟨_, 0, [], [], v5, none, rfl, rfl, sA, by rw [upd_ne nNG, upd_same], upd_same, rfl, Nat.zero_le _, fun j g e => by simp at e, Nat.le_refl _, fun j hj => absurd hj (Nat.not_lt_zero _), fun z hz => absurd rfl hz, fun j j' _ hj => absurd hj (Nat.not_lt_zero _)⟩, ?_⟩
        rintro m σ H2 ⟨i, kvs, gs, v5, v8, rfl, rfl, s2, hN2, hG2, gl, il, hgs, kl, hk1, hk2, hk3⟩
        refine ⟨_, rfl, _, rfl, N, _, rfl, DGet.k (k := Sum.inl (orb rows l s0 i)) hN2, _, rfl, ?_⟩
        refine ite2 (fun c => ?_) (fun c => ?_)
        · have hnew : valV kvs (.inl (orb rows l s0 i)) = none := by
            cases e : valV kvs (.inl (orb rows l s0 i)) with
            | none => rfl
            | some z => rw [e] at c; cases c
          have hk4 : ∀ j j', j < j' → j' < i + 1 → orb rows l s0 j ≠ orb rows l s0 j' := fun j j' h1 h2 e => by
            rcases Nat.lt_or_ge j' i with z | z
            · exact hk3 j j' h1 z e
            · have : j' = i := by omega
              subst this
              have := hk1 j h1
              rw [e, hnew] at this
              cases this
          have hi2 : i + 1 ≤ rows.length := orb_nodup_le hor hk4
          refine ⟨fun σ' H3 => ∃ (kvs : List (Key × V)) (gs : List Int) (v5 v8 : Option V), σ' = [some (.ref x), some (.ref p), some (.ref a), some (.ref b), some (.int (orb rows l s0 (i + 1))), v5, some (.ref N), some (.ref G), v8] ∧ Same H' H3 ∧ H3 N = some (.dK kvs) ∧ H3 G = some (.lst (gs.map V.int)) ∧ gs.length = i + 1 ∧
            (∀ j g, gs[j]? = some g → Mx ps (vb rows l (orb rows l s0 j)) g) ∧ kvs.length ≤ i + 1 ∧ (∀ j, j < i + 1 → valV kvs (.inl (orb rows l s0 j)) = some (.int (j : Nat))) ∧ (∀ z : Int, valV kvs (.inl z) ≠ none → ∃ j, j < i + 1 ∧ orb rows l s0 j = z),
            fun σ' H3 ⟨kvs', gs', v5', v8', g1, g2, g3, g4, g5, g6, g7, g8, g9⟩ => ⟨rows.length + 1 - (i + 1), by omega, i + 1, kvs', gs', v5', v8', rfl, g1, g2, g3, g4, g5, hi2, g6, g7, g8, g9, hk4⟩, ?_⟩
          refine ⟨_, rfl, G, _, rfl, .inl (.of hG2), _, rfl, _, rfl, N, _, rfl, DPut.k (k := Sum.inl (orb rows l s0 i)) hN2 (small1000 (by omega)), ?_⟩
          rw [List.length_map, gl]
          have s3 : Same H' (upd H2 N (.dK (putK kvs (.inl (orb rows l s0 i)) (.int (i : Nat))))) := fun c o hc => by
            rw [upd_ne (ne_of_none hc hN)]
            exact s2 _ _ hc
          have n3 : (upd H2 N (.dK (putK kvs (.inl (orb rows l s0 i)) (.int (i : Nat))))) N = some (.dK (putK kvs (.inl (orb rows l s0 i)) (.int (i : Nat)))) := upd_same
          have g3 : (upd H2 N (.dK (putK kvs (.inl (orb rows l s0 i)) (.int (i : Nat))))) G = some (.lst (gs.map V.int)) := by rw [upd_ne nNG.symm]; exact hG2
          generalize upd H2 N (.dK (putK kvs (.inl (orb rows l s0 i)) (.int (i : Nat)))) = H3 at *
          have hoi := hor i
          refine ⟨_, rfl, b, rfl, ⟨_, .of (s3 _ _ f3)⟩, for_tup (K := K) (a := b) (xs := l.map V.int) (fun k σ H4 => ∃ (v5 : Option V) (g : Int), σ = [some (.ref x), some (.ref p), some (.ref a), some (.ref b), some (.int (rdw rows (l.take k) (orb rows l s0 i))), v5, some (.ref N), some (.ref G), some (.int g)] ∧ H4 = H3 ∧ Mz ps (vb rows (l.take k) (orb rows l s0 i)) g)
            ⟨v5, 0, rfl, rfl, Int.le_refl _, fun y hy => by simp [vb] at hy, .inl rfl⟩ (fun i σ H4 _ ⟨_, _, _, z, _⟩ => by rw [z]; exact .of (s3 _ _ f3)) ?_ ?_⟩
          · rintro k y σ H4 hk ⟨v5, g, rfl, rfl, hM⟩
            obtain ⟨z, hz, rfl⟩ := ints_get hk
            have rg := (vb_range hd (w := l.take k) (fun a ha => hlp a (List.mem_of_mem_take ha)) hoi.1 hoi.2).2
            have hz2 := hlp z (List.mem_of_getElem? hz)
            obtain ⟨a2, row, r1, r2, r3⟩ := dl_at (e4.same s3) hv rg.1 rg.2 hz2.1 hz2.2
            have hpr : atI (ps.map V.int) (rdw rows (l.take k) (orb rows l s0 i)) = some (.int (pri ps (rdw rows (l.take k) (orb rows l s0 i)))) := int_at rg.1 (by rw [hv.2.2.1]; exact rg.2)
            refine ⟨_, rfl, _, rfl, x, C, dx, _, _, rfl, s3 _ _ e1, PC.cl, PC.nP, pf_p _ _ _ _, _, rfl, pt, _, _, _, rfl, rfl, .of (s3 _ _ e2), hpr, _, _, rfl, ?_⟩
            refine ⟨_, rfl, x, C, dx, _, _, rfl, s3 _ _ e1, PC.cl, PC.nR, pf_r _ _ _ _, _, rfl, rt, _, _, .ref a2, rfl, rfl, .of (s3 _ _ e3), r1, _, rfl, a2, _, _, _, rfl, rfl, .of r2, r3, some (.int z), (if pri ps (rdw rows (l.take k) (orb rows l s0 i)) > g then pri ps (rdw rows (l.take k) (orb rows l s0 i)) else g), ?_, rfl, ?_⟩
            · rw [rdw_snoc hz]
              rfl
            · rw [vb_snoc hz]
              exact hM.step
          · rintro σ H4 ⟨v5, g, rfl, rfl, hM⟩
            rw [List.length_map, List.take_length] at hM
            have hM2 := hM.mx (fun z => by have := vb_head (rows := rows) (s := orb rows l s0 i) hne; rw [z] at this; cases this) hv.2.2.2.2.2
            refine ⟨_, rfl, .inl ⟨rfl, _, .of g3⟩, _, rfl, G, _, _, rfl, rfl, g3, lenI (by omega), ?_⟩
            refine ⟨putK kvs (.inl (orb rows l s0 i)) (.int (i : Nat)), gs ++ [g], v5, some (.int g), ?_, ?_, ?_, ?_, ?_, ?_, ?_, ?_, ?_⟩
            · rw [List.length_map, List.take_length]
              rfl
            · intro c o hc
              rw [upd_ne (ne_of_none hc hG0)]
              exact s3 _ _ hc
            · rw [upd_ne nNG]
              exact n3
            · rw [upd_same, List.map_append]
              rfl
            · rw [List.length_append, gl]
              rfl
            · intro j y hj
              rcases Nat.lt_or_ge j gs.length with z | z
              · rw [List.getElem?_append_left z] at hj
                exact hgs j y hj
              · rw [List.getElem?_append_right z] at hj
                have h0 : j - gs.length = 0 := by
                  cases e : j - gs.length with
                  | zero => rfl
                  | succ q => rw [e] at hj; cases hj
                rw [h0] at hj
                have ej : j = i := by omega
                subst ej
                rw [← Option.some.inj hj]
                exact hM2
            · exact Nat.le_trans (length_putK _ _ _) (Nat.succ_le_succ kl)
            · intro j hj
              rw [valV_put]
              by_cases z : j = i
              · rw [z, if_pos rfl]
              · have hji : j < i := by omega
                rw [if_neg (fun y => hk4 j i hji (Nat.lt_succ_self i) (Sum.inl.inj y))]
                exact hk1 j hji
            · intro z hz
              rw [valV_put] at hz
              by_cases y : z = orb rows l s0 i
              · exact ⟨i, Nat.lt_succ_self i, y.symm⟩
              · rw [if_neg (fun u => y (Sum.inl.inj u))] at hz
                obtain ⟨j, j1, j2⟩ := hk2 z hz
                exact ⟨j, by omega, j2⟩
        · have hold : valV kvs (.inl (orb rows l s0 i)) ≠ none := fun e => by rw [e] at c; exact c rfl
          obtain ⟨j, j1, j2⟩ := hk2 _ hold
          refine ⟨i, j, kvs, gs, v5, v8, rfl, s2, hN2, hG2, gl, il, hgs, j1, j2.symm, ?_⟩
          rw [← j2]
          exact hk1 j j1
      · rintro σ H2 ⟨i, m5, kvs, gs, v5, v8, rfl, s2, hN2, hG2, gl, il, hgs, hm5, hom, hkm⟩
        refine ⟨_, rfl, _, rfl, _, rfl, N, _, rfl, (by rw [← hkm]; exact DGet.k (k := Sum.inl (orb rows l s0 i)) hN2), _, rfl, ?_⟩
        dsimp only [tNoPart]
        refine sll_from (n := m5) hG2 rfl (by omega) fun p2 hp2 => ?_
        refine ⟨p2, gs.drop m5, rfl, .of upd_same, by rw [List.length_drop]; omega, fun bb hb1 hb2 => ?_⟩
        refine ⟨_, _, rfl, rfl, (show (0 : Int) < 2 by decide), rfl, ?_⟩
        exact q3 _ bb ((s1.trans s2).trans (same_new hp2)) (bst_prog hm5 hom gl hgs hb1 hb2)
def vas (rows : List (List Int)) (w : List Int) (s : Int) (n : Nat) : Nat → List Int
  | 0 => []
  | k + 1 => vas rows w s n k ++ va rows w (orb rows w s (n + k))
theorem vas_mem {rows : List (List Int)} {w : List Int} {s x : Int} {n : Nat} : ∀ {k : Nat}, x ∈ vas rows w s n k ↔ ∃ i, n ≤ i ∧ i < n + k ∧ x ∈ va rows w (orb rows w s i)
  | 0 => ⟨fun h => by simp [vas] at h, fun ⟨i, a, b, _⟩ => by omega⟩
  | k + 1 => by
    constructor
    · intro h
      rcases List.mem_append.mp h with z | z
      · obtain ⟨i, a, b, c⟩ := vas_mem.mp z
        exact ⟨i, a, by omega, c⟩
      · exact ⟨n + k, by omega, by omega, z⟩
    · rintro ⟨i, a, b, c⟩
      refine List.mem_append.mpr ?_
      by_cases z : i = n + k
      · right
        rw [← z]
        exact c
      · exact .inl (vas_mem.mpr ⟨i, a, by omega, c⟩)
def spBest : Sp := fun vs H Q _ => ∃ (pp r p : Addr) (as : List Addr) (L s : Int) (ps : List Int) (rows : List (List Int)) (h l : List Int), vs = [.int s, .ref pp, .ref r, .ref p] ∧ H pp = some (.lst (ps.map V.int)) ∧ LL H r as rows ∧ Vld L s ps rows ∧ rows.length ≤ 1000 ∧ Las H p h l ∧ l ≠ [] ∧
  (∀ a, a ∈ h ∨ a ∈ l → 0 ≤ a ∧ a < L) ∧ ∀ b, Bst rows ps l (rdw rows h s) b → Q (.int b) H
theorem cal_best (T : Txt K mg) : C8.Cal P w K mg base 1 "_law_best" spBest [] := by
  obtain ⟨f, fd, F, hm, hb⟩ := T.h_law_best
  refine ⟨f, fd, _, [], F.ok sc_law_best (fun vs H Q E h => ?_) (fun cdv A outer s H vs Q E hr h => ?_), hm, F.kp, hb, .nil⟩
  · obtain ⟨pp, r, p, as, L, st, ps, rows, h, l, rfl, _⟩ := h
    rfl
  · obtain ⟨pp, r, p, as, L, st, ps, rows, h, l, rfl, hp, hL, hv, b1, hLas, hne, hlt, q⟩ := h
    refine ⟨_, (pss_cons
      (ps_set (i := 4) sc_law_best.nd rfl (Or.inl rfl) (pv 0))
      (pss_cons
      (ps_for PassesOwn.never rfl (pi_tup (pe_ix (ix_tupK (K := K) rfl) (pv 3) pe_int (fun _ _ => rfl))) (pg_name (i := 5) sc_law_best.nd rfl (.inl rfl)) (pss_one
      (ps_set (i := 4) sc_law_best.nd rfl (Or.inl rfl) (pe_ix (ix_listK (K := K) rfl) (pe_ix (ix_listK (K := K) rfl) (pv 2) (pv 4) (fun _ _ => rfl)) (pv 5) (fun _ _ => rfl)))))
      (pss_cons
      (ps_for PassesOwn.never rfl (pi_range1 (by rfl) T.z_range (pa_cons (pe_callB (call_lenK (K := K) rfl) (by rfl) T.z_len PySem.boot_len (pa_cons (pv 2) pa_nil)) pa_nil)) (pg_name (i := 6) sc_law_best.nd rfl (.inl rfl)) (pss_one
      (ps_for PassesOwn.never rfl (pi_tup (pe_ix (ix_tupK (K := K) rfl) (pv 3) pe_int (fun _ _ => rfl))) (pg_name (i := 5) sc_law_best.nd rfl (.inl rfl)) (pss_one
      (ps_set (i := 4) sc_law_best.nd rfl (Or.inl rfl) (pe_ix (ix_listK (K := K) rfl) (pe_ix (ix_listK (K := K) rfl) (pv 2) (pv 4) (fun _ _ => rfl)) (pv 5) (fun _ _ => rfl)))))))
      (pss_cons
      (ps_set (i := 7) sc_law_best.nd rfl (Or.inl rfl) pe_int)
      (pss_cons
      (ps_for PassesOwn.never rfl (pi_range1 (by rfl) T.z_range (pa_cons (pe_callB (call_lenK (K := K) rfl) (by rfl) T.z_len PySem.boot_len (pa_cons (pv 2) pa_nil)) pa_nil)) (pg_name (i := 6) sc_law_best.nd rfl (.inl rfl)) (pss_one
      (ps_for PassesOwn.never rfl (pi_tup (pe_ix (ix_tupK (K := K) rfl) (pv 3) pe_int (fun _ _ => rfl))) (pg_name (i := 5) sc_law_best.nd rfl (.inl rfl)) (pss_cons
      (ps_set (i := 4) sc_law_best.nd rfl (Or.inl rfl) (pe_ix (ix_listK (K := K) rfl) (pe_ix (ix_listK (K := K) rfl) (pv 2) (pv 4) (fun _ _ => rfl)) (pv 5) (fun _ _ => rfl)))
      (pss_one
      (ps_set (i := 7) sc_law_best.nd rfl (Or.inl rfl) (pe_callB (call_max2 rfl) (by rfl) T.z_max (by decide +kernel) (pa_cons (pv 7) (pa_cons (pe_ix (ix_listK (K := K) rfl) (pv 1) (pv 4) (fun _ _ => rfl)) pa_nil)))))))))
      (pss_one
      (ps_ret (pv 7)))))))), ?_⟩
    obtain ⟨a, b, f1, f2, f3⟩ := hLas
    have hl2 : (as.map V.ref).length = rows.length := by rw [List.length_map, hL.2.len]
    have i0 : ∀ a b : V, atI [a, b] 0 = some a := fun _ _ => rfl
    have i1 : ∀ a b : V, atI [a, b] 1 = some b := fun _ _ => rfl
    have hd : ∀ s a, 0 ≤ s → s < (rows.length : Int) → 0 ≤ a → a < L → 0 ≤ dl rows s a ∧ dl rows s a < (rows.length : Int) := fun s a h0 h1 h2 h3 => dl_ok hv h0 h1 h2 h3
    have hs0 := hv.2.2.2.1
    have hhd : ∀ a ∈ h, 0 ≤ a ∧ a < L := fun a ha => hlt a (.inl ha)
    have hlp : ∀ a ∈ l, 0 ≤ a ∧ a < L := fun a ha => hlt a (.inr ha)
    have hn0 : 0 < rows.length := List.length_pos_iff.mpr hv.2.1
    have get : ∀ {s z : Int}, 0 ≤ s → s < (rows.length : Int) → 0 ≤ z → z < L → ∃ (a : Addr) (row : List Int), atI (as.map V.ref) s = some (.ref a) ∧ H a = some (.lst (row.map V.int)) ∧ atI (row.map V.int) z = some (.int (dl rows s z)) := fun h0 h1 h2 h3 => dl_at hL.2 hv h0 h1 h2 h3
    refine ⟨_, rfl, ?_⟩
    refine ⟨_, rfl, p, _, _, _, rfl, rfl, .of f1, i0 _ _, a, rfl, ⟨_, .of f2⟩, for_tup (K := K) (a := a) (xs := h.map V.int) (fun i σ H' => ∃ v5 : Option V, σ = [some (.int st), some (.ref pp), some (.ref r), some (.ref p), some (.int (rdw rows (h.take i) st)), v5, none, none] ∧ H' = H)
      ⟨none, rfl, rfl⟩ (fun i σ H' _ ⟨_, _, z⟩ => by rw [z]; exact .of f2) ?_ ?_⟩
    · rintro i y σ H' hi ⟨v5, rfl, rfl⟩
      obtain ⟨z, hz, rfl⟩ := ints_get hi
      have rg := (vb_range hd (w := h.take i) (fun a ha => hhd a (List.mem_of_mem_take ha)) hs0.1 hs0.2).2
      have hz2 := hhd z (List.mem_of_getElem? hz)
      obtain ⟨a2, row, r1, r2, r3⟩ := get rg.1 rg.2 hz2.1 hz2.2
      refine ⟨_, rfl, _, rfl, r, _, _, .ref a2, rfl, rfl, .of hL.1, r1, _, rfl, a2, _, _, _, rfl, rfl, .of r2, r3, some (.int z), ?_, rfl⟩
      rw [rdw_snoc hz]
      rfl
    · rintro σ H' ⟨v5, rfl, rfl⟩
      rw [List.length_map, List.take_length]
      have hl0 : 0 ≤ rdw rows h st ∧ rdw rows h st < (rows.length : Int) := (vb_range hd (w := h) hhd hs0.1 hs0.2).2
      generalize rdw rows h st = s0 at *
      have hor := orb_range (w := l) hd hlp hl0.1 hl0.2
      -- a round
      refine ⟨_, rfl, r, _, rfl, .inl (.of hL.1), _, rfl, by omega, by omega, for_range (lo := 0) (n := (((as.map V.ref).length : Nat) : Int).toNat) (fun i σ H2 => ∃ v5 v6 : Option V, σ = [some (.int st), some (.ref pp), some (.ref r), some (.ref p), some (.int (orb rows l s0 i)), v5, v6, none] ∧ H2 = H')
        ⟨v5, none, rfl, rfl⟩ ?_ ?_⟩
      · rintro i σ H2 hi ⟨v5, v6, rfl, rfl⟩
        have hoi := hor i
        refine ⟨_, rfl, p, _, _, _, rfl, rfl, .of f1, i1 _ _, b, rfl, ⟨_, .of f3⟩, for_tup (K := K) (a := b) (xs := l.map V.int) (fun k σ H3 => ∃ v5 v6 : Option V, σ = [some (.int st), some (.ref pp), some (.ref r), some (.ref p), some (.int (rdw rows (l.take k) (orb rows l s0 i))), v5, v6, none] ∧ H3 = H2)
          ⟨_, _, rfl, rfl⟩ (fun i σ H' _ ⟨_, _, _, z⟩ => by rw [z]; exact .of f3) ?_ ?_⟩
        · rintro k y σ H3 hk ⟨v5, v6, rfl, rfl⟩
          obtain ⟨z, hz, rfl⟩ := ints_get hk
          have rg := (vb_range hd (w := l.take k) (fun a ha => hlp a (List.mem_of_mem_take ha)) hoi.1 hoi.2).2
          have hz2 := hlp z (List.mem_of_getElem? hz)
          obtain ⟨a2, row, r1, r2, r3⟩ := get rg.1 rg.2 hz2.1 hz2.2
          refine ⟨_, rfl, _, rfl, r, _, _, .ref a2, rfl, rfl, .of hL.1, r1, _, rfl, a2, _, _, _, rfl, rfl, .of r2, r3, some (.int z), v6, ?_, rfl⟩
          rw [rdw_snoc hz]
          rfl
        · rintro σ H3 ⟨v5, v6, rfl, rfl⟩
          rw [List.length_map, List.take_length]
          exact ⟨_, _, rfl, rfl⟩
      · rintro σ H2 ⟨v5, v6, rfl, rfl⟩
        rw [show (((as.map V.ref).length : Nat) : Int).toNat = rows.length by omega]
        generalize hn : rows.length = n at *
        -- the rounds that count
        refine ⟨_, rfl, r, _, rfl, .inl (.of hL.1), _, rfl, by omega, by omega, for_range (lo := 0) (n := (((as.map V.ref).length : Nat) : Int).toNat) (fun i σ H3 => ∃ (v5 v6 : Option V) (g : Int), σ = [some (.int st), some (.ref pp), some (.ref r), some (.ref p), some (.int (orb rows l s0 (n + i))), v5, v6, some (.int g)] ∧ H3 = H2 ∧ Mz ps (vas rows l s0 n i) g)
          ⟨v5, v6, 0, rfl, rfl, Int.le_refl _, fun y hy => by simp [vas] at hy, .inl rfl⟩ ?_ ?_⟩
        · rintro i σ H3 hi ⟨v5, v6, g, rfl, rfl, hM⟩
          have hoi := hor (n + i)
          refine ⟨_, rfl, p, _, _, _, rfl, rfl, .of f1, i1 _ _, b, rfl, ⟨_, .of f3⟩, for_tup (K := K) (a := b) (xs := l.map V.int) (fun k σ H4 => ∃ (v5 v6 : Option V) (g : Int), σ = [some (.int st), some (.ref pp), some (.ref r), some (.ref p), some (.int (rdw rows (l.take k) (orb rows l s0 (n + i)))), v5, v6, some (.int g)] ∧ H4 = H3 ∧ Mz ps (vas rows l s0 n i ++ va rows (l.take k) (orb rows l s0 (n + i))) g)
            ⟨_, _, g, rfl, rfl, by rw [List.take_zero, show va rows [] (orb rows l s0 (n + i)) = [] from rfl, List.append_nil]; exact hM⟩ (fun i σ H' _ ⟨_, _, _, _, z, _⟩ => by rw [z]; exact .of f3) ?_ ?_⟩
          · rintro k y σ H4 hk ⟨v5, v6, g, rfl, rfl, hM⟩
            obtain ⟨z, hz, rfl⟩ := ints_get hk
            have rg := (vb_range hd (w := l.take k) (fun a ha => hlp a (List.mem_of_mem_take ha)) hoi.1 hoi.2).2
            have hz2 := hlp z (List.mem_of_getElem? hz)
            obtain ⟨a2, row, r1, r2, r3⟩ := get rg.1 rg.2 hz2.1 hz2.2
            have rg2 := hd _ _ rg.1 rg.2 hz2.1 hz2.2
            have hpr : atI (ps.map V.int) (dl rows (rdw rows (l.take k) (orb rows l s0 (n + i))) z) = some (.int (pri ps (dl rows (rdw rows (l.take k) (orb rows l s0 (n + i))) z))) := int_at rg2.1 (by rw [hv.2.2.1, hn]; exact rg2.2)
            refine ⟨_, rfl, _, rfl, r, _, _, .ref a2, rfl, rfl, .of hL.1, r1, _, rfl, a2, _, _, _, rfl, rfl, .of r2, r3, ?_⟩
            refine ⟨_, rfl, _, rfl, _, rfl, pp, _, _, _, rfl, rfl, .of hp, hpr, _, _, rfl, some (.int z), v6, (if pri ps (dl rows (rdw rows (l.take k) (orb rows l s0 (n + i))) z) > g then pri ps (dl rows (rdw rows (l.take k) (orb rows l s0 (n + i))) z) else g), ?_, rfl, ?_⟩
            · rw [rdw_snoc hz]
              rfl
            · rw [va_snoc hz, ← List.append_assoc]
              exact hM.step
          · rintro σ H4 ⟨v5, v6, g, rfl, rfl, hM⟩
            rw [List.length_map, List.take_length] at *
            exact ⟨_, _, g, rfl, rfl, hM⟩
        · rintro σ H3 ⟨v5, v6, g, rfl, rfl, hM⟩
          rw [show (((as.map V.ref).length : Nat) : Int).toNat = n by omega] at hM
          refine ⟨_, rfl, q g (bst_law hn0 hne hor hv.2.2.2.2.2 (fun i i1 i2 x hx => hM.2.1 x (vas_mem.mpr ⟨i, i1, i2, hx⟩)) ?_)⟩
          rcases hM.2.2 with z | ⟨x, hx, e⟩
          · exact .inl z
          · obtain ⟨i, i1, i2, i3⟩ := vas_mem.mp hx
            exact .inr ⟨i, x, i1, i3, e⟩
def spAccOut (C : Addr) : Sp := fun vs H Q _ => ∃ (x p : Addr) (L s : Int) (ps : List Int) (rows : List (List Int)) (h l : List Int), vs = [.ref x, .ref p] ∧ ParAt C H x L s ps rows ∧ Vld L s ps rows ∧ rows.length ≤ 1000 ∧ Las H p h l ∧ l ≠ [] ∧ h.length ≤ 1000 ∧ l.length ≤ 1000 ∧ (∀ a, a ∈ h ∨ a ∈ l → 0 ≤ a) ∧
  ∀ (v : V) (H' : Hp), Same H H' → (((∃ a, (a ∈ h ∨ a ∈ l) ∧ L ≤ a) ∧ v = .non) ∨ ((∀ a, a ∈ h ∨ a ∈ l → a < L) ∧ ∃ b, Bst rows ps l (rdw rows h s) b ∧ v = .bl (decide (V.int (b % 2) = V.int 0)))) → Q v H'
theorem cal_accout {C cL : Addr} (T : Txt K mg) (eL : ErrC K mg "InvalidLetter" cL) (PC : ParC K C) : C8.Cal P w K mg base 3 "_law_outcome" (spAccOut C) [] := by
  have X_accepts_parity : CalX P w K mg base 2 "accepts_parity" (spAcc C cL) := cal_acc T eL PC
  obtain ⟨f, fd, F, hm, hb⟩ := T.h_law_outcome
  refine ⟨f, fd, _, [], F.ok sc_law_outcome (fun vs H Q E h => ?_) (fun cdv A outer s H vs Q E hr h => ?_), hm, F.kp, hb, .nil⟩
  · obtain ⟨x, p, L, st, ps, rows, h, l, rfl, _⟩ := h
    rfl
  · obtain ⟨x, p, L, st, ps, rows, h, l, rfl, hP, hv, b1, hL, hne, hh, hl, hnn, q⟩ := h
    refine ⟨_, (pss_one
      (ps_try_only rfl rfl ⟨rfl, by decide, .inl eL.g⟩ takes0 (fun W pn xe tk _ => (pss_one (ps_ret (pe_cx X_accepts_parity hr (by decide) tk (by rfl) (pa_cons (pv 0) (pa_cons (pv 1) pa_nil)))))) (fun a oe cls d pn hz hf => (pss_one
      (ps_ret pe_non))))), ?_⟩
    refine ⟨_, rfl, _, rfl, x, p, L, st, ps, rows, h, l, rfl, hP, hv, b1, hL, hne, hh, hl, hnn, fun c H1 s1 => ?_, fun c H1 b s1 hB => ?_⟩
    · exact ⟨true, eL.me, fun _ a ha => q _ _ s1 (.inl ⟨c, rfl⟩), fun z => by cases z⟩
    · exact q _ _ s1 (.inr ⟨c, b, hB, rfl⟩)
theorem par_kp {C d : Addr} {H H' : Hp} {x : Addr} {L s : Int} {ps : List Int} {rows : List (List Int)} (hd : Drw H d) (k : Kp d H H') (h : ParAt C H x L s ps rows) : ParAt C H' x L s ps rows :=
  par_kl (S := [d]) (fun b o nb hb => k b o (fun z => nb (by rw [z]; exact List.mem_cons_self)) hb) (fun b hb => by rw [List.mem_singleton.mp hb]; obtain ⟨o, y⟩ := hd; exact ⟨_, y⟩) h
theorem ite_nb {x : V} {A B : Prop} (h : B) : if (!decide (x = x)) = true then A else B := by
  rw [decide_eq_true rfl]
  exact iteF h
theorem flip_ne (b : Int) : (!decide (V.bl (decide (V.int ((b + 1) % 2) = V.int 0)) = V.bl (decide (V.int (b % 2) = V.int 0)))) = true := by
  have dec : ∀ x : Int, decide (V.int x = V.int 0) = decide (x = 0) := fun x => by
    by_cases c : x = 0
    · rw [c, decide_eq_true rfl, decide_eq_true rfl]
    · rw [decide_eq_false c, decide_eq_false (fun z => c (V.int.inj z))]
  rw [dec, dec]
  by_cases c : b % 2 = 0
  · have e : ¬ (b + 1) % 2 = 0 := by omega
    rw [decide_eq_true c, decide_eq_false e]
    rfl
  · have e : (b + 1) % 2 = 0 := by omega
    rw [decide_eq_false c, decide_eq_true e]
    rfl
theorem ok_law {f : Addr} {fd : FuncData} (F : L2.Fun K "law" "law" s_law f fd) (T : Txt K mg) : FnOk P w K mg base CX0 6 f fd ["script"] (spLaw K) := by
  obtain ⟨cL, eL, cI, C, fI, fdI, eI, PC, hM, gC, F0, hB⟩ := T.er
  have C_law_draws : C8.Cal P w K mg base 1 "_law_draws" (spDraws K) [] := cal_draws T
  have C_law_take : C8.Cal P w K mg base 1 "_law_take" spTake [] := cal_take T
  have C_law_cell : C8.Cal P w K mg base 1 "_law_cell" (spCell K) [] := cal_cell T
  have C_law_lasso : C8.Cal P w K mg base 2 "_law_lasso" spLasso [] := cal_lasso T
  have C_law_parity : C8.Cal P w K mg base 2 "_law_parity" spPar [] := cal_parity T
  have C_law_flat : C8.Cal P w K mg base 1 "_law_flat" spFlat [] := cal_flat T
  have C_law_best : C8.Cal P w K mg base 1 "_law_best" spBest [] := cal_best T
  have C_law_outcome : C8.Cal P w K mg base 3 "_law_outcome" (spAccOut C) [] := cal_accout T eL PC
  have C_complement_parity : C8.Cal P w K mg base 4 "complement_parity" (spCompl C) [] := cal_compl T eI PC hM gC F0 hB
  have MK : MakX P w K mg base 2 "ParityAutomaton" C (spInitP C cI) := ⟨fI, fdI, _, hM, ok_init T eI PC F0, gC, hB⟩
  refine F.ok sc_law (fun vs H Q E h => ?_) (fun cdv A outer s H vs Q E hr h => ?_)
  · obtain ⟨a, ns, rfl, _⟩ := h
    rfl
  · obtain ⟨sa, ns, rfl, hS, hlen, q⟩ := h
    have i0 : ∀ a b : V, atI [a, b] 0 = some a := fun _ _ => rfl
    have i1 : ∀ a b : V, atI [a, b] 1 = some b := fun _ _ => rfl
    refine ⟨_, (pss_cons
      (ps_set (i := 1) sc_law.nd rfl (Or.inl rfl) (C8.pe_c C_law_draws hr (by decide) (by rfl) (pa_cons (pv 0) (pa_cons pe_int pa_nil))))
      (pss_cons
      (ps_set (i := 2) sc_law.nd rfl (Or.inl rfl) (pe_op op_add pe_int (C8.pe_c C_law_take hr (by decide) (by rfl) (pa_cons (pv 1) (pa_cons pe_int pa_nil)))))
      (pss_cons
      (ps_asg (C8.pe_c C_law_parity hr (by decide) (by rfl) (pa_cons (pv 1) (pa_cons (pv 2) (pa_cons pe_int pa_nil)))) (pg_tup (by rfl) (pgs_cons (pg_name (i := 3) sc_law.nd rfl (.inl rfl)) (pgs_cons (pg_name (i := 4) sc_law.nd rfl (.inl rfl)) (pgs_cons (pg_name (i := 5) sc_law.nd rfl (.inl rfl)) pgs_nil)))))
      (C8.pss_cut
      (ps_if (pt_cmpR op_eq (C8.pe_c C_law_take hr (by decide) (by rfl) (pa_cons (pv 1) (pa_cons pe_int pa_nil))) pe_int (nomark _)) (pss_cons
      (ps_set (i := 6) sc_law.nd rfl (Or.inr rfl) (pe_op op_mul (pe_op op_mod (pe_callTy call_int1 (by rfl) T.z_int (by decide +kernel) (pa_cons (C8.pe_c C_law_cell hr (by decide) (by rfl) (pa_cons (pv 0) (pa_cons pe_int pa_nil))) pa_nil)) (pe_op op_pow pe_int pe_int)) pe_int))
      (pss_one
      (ps_setLc (i := 4) (own := [("priority", 13)]) (g := gName 13) (tt := tYes) rfl sc_law.nd rfl rfl (sw_true rfl rfl rfl (by decide +kernel)) (pi_list (pv 4)) (blkOk_by (N := N_law) (sc := defScope s_law) (by decide +kernel)) (fun _ _ _ _ _ => pg_name (i := 13) sc_law.nd rfl (Or.inl rfl)) (fun _ _ _ _ _ => pts_nil) (fun _ _ _ _ _ => (pe_op op_add (pv 13) (pv 6)))))) pss_nil)
      (pss_cons
      (ps_set (i := 7) sc_law.nd rfl (Or.inl rfl) (pe_makeN MK hr (by decide) (by rfl) (pa_cons (pv 2) (pa_cons (pv 3) (pa_cons (pe_callTy (call_list_ofK (K := K) rfl) (by rfl) T.z_list (by decide +kernel) (pa_cons (pv 4) pa_nil)) (pa_cons (C8.pe_c C_law_flat hr (by decide) (by rfl) (pa_cons (pv 5) pa_nil)) pa_nil))))))
      (pss_cons
      (ps_set (i := 8) sc_law.nd rfl (Or.inl rfl) (C8.pe_c C_law_lasso hr (by decide) (by rfl) (pa_cons (pv 1) (pa_cons (pv 2) (pa_cons pe_int pa_nil)))))
      (pss_cons
      (ps_if (pt_cmpR op_eq (C8.pe_c C_law_take hr (by decide) (by rfl) (pa_cons (pv 1) (pa_cons pe_int pa_nil))) pe_int (nomark _)) (pss_cons
      (ps_set (i := 9) sc_law.nd rfl (Or.inl rfl) (pe_op op_cat (pe_callTy (call_list_ofK (K := K) rfl) (by rfl) T.z_list (by decide +kernel) (pa_cons (pe_ix (ix_tupK (K := K) rfl) (pv 8) pe_int (fun _ _ => rfl)) pa_nil)) (pe_lst (pa_cons (pe_op op_add (pv 2) (C8.pe_c C_law_take hr (by decide) (by rfl) (pa_cons (pv 1) (pa_cons pe_int pa_nil)))) pa_nil))))
      (pss_one
      (ps_ret (pe_cmpR op_isN (C8.pe_c C_law_outcome hr (by decide) (by rfl) (pa_cons (pv 7) (pa_cons (pe_tup (pa_cons (pe_ix (ix_tupK (K := K) rfl) (pv 8) pe_int (fun _ _ => rfl)) (pa_cons (pe_callTy (call_tuple_ofK (K := K) rfl) (by rfl) T.z_tuple (by decide +kernel) (pa_cons (pv 9) pa_nil)) pa_nil))) pa_nil))) pe_non (nomark _))))) pss_nil)
      (pss_cons
      (ps_set (i := 10) sc_law.nd rfl (Or.inl rfl) (pe_cmpR op_eq (pe_op op_mod (pe_callTy call_int1 (by rfl) T.z_int (by decide +kernel) (pa_cons (C8.pe_c C_law_best hr (by decide) (by rfl) (pa_cons (pv 3) (pa_cons (pv 4) (pa_cons (pv 5) (pa_cons (pv 8) pa_nil))))) pa_nil)) pe_int) pe_int (nomark _)))
      (pss_cons
      (ps_set (i := 11) sc_law.nd rfl (Or.inl rfl) (C8.pe_c C_law_outcome hr (by decide) (by rfl) (pa_cons (pv 7) (pa_cons (pv 8) pa_nil))))
      (pss_cons
      (ps_if (PW.pt (pw_or (pt_not (pt_val (pe_callB (call_isiK' (K := K) rfl) (by rfl) T.z_isinstance (by decide +kernel) (pa_cons (pv 11) (pa_cons (pe_bltn (v := .ty "bool") (by rfl) T.z_bool (by decide +kernel) rfl) pa_nil))))) (pw_or1 (pt_cmpR op_ne (pv 11) (pv 10) (nomark _))))) (pss_one
      (ps_ret pe_bl)) pss_nil)
      (pss_cons
      (ps_set (i := 12) sc_law.nd rfl (Or.inl rfl) (C8.pe_c C_law_outcome hr (by decide) (by rfl) (pa_cons (C8.pe_c C_complement_parity hr (by decide) (by rfl) (pa_cons (pv 7) pa_nil)) (pa_cons (pv 8) pa_nil))))
      (pss_one
      (ps_ret (pe_and (pe_callB (call_isiK' (K := K) rfl) (by rfl) T.z_isinstance (by decide +kernel) (pa_cons (pv 12) (pa_cons (pe_bltn (v := .ty "bool") (by rfl) T.z_bool (by decide +kernel) rfl) pa_nil))) (pe_one (pe_cmpR op_ne (pv 12) (pv 10) (nomark _))))))))))))))))), ?_⟩
    refine ⟨_, rfl, sa, ns, 100, rfl, hS, by decide, fun H1 d s1 hd0 d1 => ?_⟩
    have hS2 : ∀ H' : Hp, Kp d H1 H' → SqL K H' sa (ns.map V.int) := fun H' k => by
      have hs1 := s1.seq hS
      rcases hS with (z | ⟨o, z⟩) | z
      · have ne : sa ≠ d := fun e => by rw [e, hd0] at z; cases z
        exact .inl (.inl (k _ _ ne (s1 _ _ z)))
      · have ne : sa ≠ d := fun e => by rw [e, hd0] at z; cases z
        exact .inl (.inr ⟨o, k _ _ ne (s1 _ _ z)⟩)
      · exact .inr z
    refine ⟨_, rfl, d, 3, rfl, d1, by decide, fun l0 ds l1 l2 => ?_⟩
    have k2 : Kp d H1 (upd H1 d (.lst (ds.map V.int))) := Kp.own
    have d2 : Drw (upd H1 d (.lst (ds.map V.int))) d := Drw.own
    generalize upd H1 d (.lst (ds.map V.int)) = H2 at *
    clear d1 s1 hd0
    refine ⟨_, _, rfl, rfl, ?_⟩
    refine ⟨_, rfl, _, rfl, d, 1 + l0, 6, rfl, d2, by omega, by omega, by omega, by omega, fun H3 t pp r as st ps rows k3 d3 et hp hL G bm => ?_⟩
    have hl2 : (as.map V.ref).length = rows.length := by rw [List.length_map, hL.2.len]
    have k13 := k2.trans k3
    clear k2 k3 d2
    refine ⟨t, _, rfl, .of et, rfl, _, _, rfl, _, _, rfl, _, _, rfl, rfl, ?_⟩
    obtain ⟨hv, _, _, g1, g2, g3, _, _⟩ := id G
    have bps : ps.length ≤ 1000 := by have := hv.2.2.1; omega
    have brow : ∀ q ∈ rows, q.length ≤ 1000 := fun q hq => by have := (hv.2.2.2.2.1 q hq).1; omega
    -- the great priorities
    refine ⟨fun σ H' => ∃ (pp : Addr) (ps : List Int) (v6 : Option V), σ = [some (.ref sa), some (.ref d), some (.int (1 + l0)), some (.int st), some (.ref pp), some (.ref r), v6, none, none, none, none, none, none, none] ∧ Kp d H1 H' ∧ Drw H' d ∧ H' pp = some (.lst (ps.map V.int)) ∧ LL H' r as rows ∧ d ≠ pp ∧ Vld (1 + l0) st ps rows ∧ ps.length ≤ 1000, ?_, ?_⟩
    · refine ⟨_, rfl, d, 4, rfl, d3, by decide, fun u ds _ _ => ?_⟩
      have hp4 := hp_kp (Kp.own (o := .lst (ds.map V.int))) g1 hp
      have hL4 := ll_kp (Kp.own (o := .lst (ds.map V.int))) g2 g3 hL
      have k4 : Kp d H1 (upd H3 d (.lst (ds.map V.int))) := k13.trans Kp.own
      have d4 : Drw (upd H3 d (.lst (ds.map V.int))) d := Drw.own
      generalize upd H3 d (.lst (ds.map V.int)) = H4 at *
      refine ⟨rfl, _, rfl, ite_eq (fun _ => ?_) (fun _ => ⟨pp, ps, none, rfl, k4, d4, hp4, hL4, g1, hv, bps⟩)⟩
      refine ⟨_, rfl, sa, ns, 0, rfl, hS2 _ k4, fun v => .inl ⟨_, rfl, ?_⟩⟩
      refine ⟨_, _, rfl, rfl, ⟨by decide, by decide⟩, _, _, rfl, rfl, (show (0 : Int) < _ by decide), ?_⟩
      have nn : (0 : Int) ≤ v % (10 ^ ((19 : Int)).toNat) := Int.emod_nonneg _ (by decide)
      refine ⟨_, _, rfl, rfl, .inr ⟨by decide, by decide⟩, ?_⟩
      have nn2 : 0 ≤ v % (10 ^ ((19 : Int)).toNat) * 2 := by omega
      refine ⟨_, rfl, pp, rfl, ⟨_, .of hp4⟩, fun D hD => lc_list (K := K) (a := pp) (xs := ps.map V.int) (fun i H' => Same H4 H' ∧ H' D = some (.lst (((ps.take i).map (· + v % (10 ^ ((19 : Int)).toNat) * 2)).map V.int)))
        ⟨same_new hD, upd_same⟩ (fun i H' _ ⟨z, _⟩ => .of (z _ _ hp4)) ?_ ?_⟩
      · rintro i y5 H5 hi ⟨s5, eD⟩
        obtain ⟨z, hz, rfl⟩ := ints_get hi
        refine ⟨rfl, _, rfl, _, rfl, _, _, rfl, rfl, _, eD, lenI (by rw [List.length_map, List.length_take]; omega), fun b o hb => ?_, ?_⟩
        · rw [upd_ne (ne_of_none hb hD)]
          exact s5 _ _ hb
        · rw [upd_same, take_get hz, List.map_append, List.map_append]
          rfl
      · rintro H5 ⟨s5, eD⟩
        rw [List.length_map, List.take_length] at eD
        have ndD : d ≠ D := fun z => by obtain ⟨o, y⟩ := d4; rw [z, hD] at y; cases y
        refine ⟨D, ps.map (· + v % (10 ^ ((19 : Int)).toNat) * 2), some (.int (v % (10 ^ ((19 : Int)).toNat) * 2)), rfl, k4.trans (Same.kp s5), by obtain ⟨o, y⟩ := d4; exact ⟨o, s5 _ _ y⟩, eD, LL.same s5 hL4, ndD, ?_, by rw [List.length_map]; exact bps⟩
        exact ⟨hv.1, hv.2.1, by rw [List.length_map]; exact hv.2.2.1, hv.2.2.2.1, hv.2.2.2.2.1, fun z hz => by
          obtain ⟨u, hu, rfl⟩ := List.mem_map.mp hz
          have := hv.2.2.2.2.2 u hu
          show 0 ≤ u + v % (10 ^ ((19 : Int)).toNat) * 2
          omega⟩
    clear hp hL d3 k13 et G g1 hv bps
    rintro σ H4 ⟨pp, ps, v6, rfl, k4, d4, hp, hL, g1, hv, bps⟩
    generalize 1 + l0 = L at *
    -- the automaton
    refine ⟨_, rfl, _, rfl, _, rfl, pp, _, rfl, .inl (.of hp), fun P2 hP2 => ?_⟩
    have s1 : Same H4 (upd H4 P2 (.lst (ps.map V.int))) := same_new hP2
    have eP : (upd H4 P2 (.lst (ps.map V.int))) P2 = some (.lst (ps.map V.int)) := upd_same
    generalize upd H4 P2 (.lst (ps.map V.int)) = H5 at *
    refine ⟨_, rfl, r, as, rows, rfl, LL.same s1 hL, by omega, fun H6 R2 as2 c2 => fun y dy hy hdy hne => ?_⟩
    have s3 := same_fresh (C := C) hy hdy
    refine ⟨y, P2, R2, dy, L, st, ps, as2, rows, rfl, upd_same, s3 _ _ (c2.1 _ _ eP), .inl (s3 _ _ c2.2.1.1), (c2.2.1.2.same s3).q1, by omega, bps, brow, fun c => absurd hv c, fun _ H7 k7 P7 => ⟨rfl, ?_⟩⟩
    have s7 : Same H4 H7 := s1.trans (c2.1.trans (same_made hy hdy k7))
    have d7 : Drw H7 d := by obtain ⟨o, y⟩ := d4; exact ⟨o, s7 _ _ y⟩
    have hp7 := s7 _ _ hp
    have hL7 := LL.same s7 hL
    clear c2 k7 s3 hy hdy hne s1 eP hP2 hp hL d4 s7 k4
    -- the word
    refine ⟨_, rfl, _, rfl, d, L, 4, rfl, d7, by have := hv.1; omega, by decide, by decide, fun H8 p h l k8 d8 LS lh ln ll bh bl => ?_⟩
    have hp8 := hp_kp k8 g1 hp7
    have hL8 := ll_kp k8 g2 g3 hL7
    have P8 := par_kp d7 k8 P7
    clear k8 d7 P7 hp7 hL7
    have hnn : ∀ x, x ∈ h ∨ x ∈ l → 0 ≤ x ∧ x < L := fun x hx => by
      rcases hx with z | z
      · exact bh x z
      · exact bl x z
    refine ⟨_, rfl, d, 8, rfl, d8, by decide, fun u ds _ _ => ?_⟩
    have hp9 := hp_kp (Kp.own (o := .lst (ds.map V.int))) g1 hp8
    have hL9 := ll_kp (Kp.own (o := .lst (ds.map V.int))) g2 g3 hL8
    have P9 := par_kp d8 (Kp.own (o := .lst (ds.map V.int))) P8
    have LS9 : Las (upd H8 d (.lst (ds.map V.int))) p h l := LS.keep Kp.own d8
    have d9 : Drw (upd H8 d (.lst (ds.map V.int))) d := Drw.own
    generalize upd H8 d (.lst (ds.map V.int)) = H9 at *
    clear d8 P8 hp8 hL8 LS
    refine ⟨rfl, _, rfl, ite_eq (fun _ => ?_) (fun _ => ?_)⟩
    · -- a letter too large
      obtain ⟨a, b, e1, e2, e3⟩ := id LS9
      refine ⟨_, rfl, p, _, _, _, rfl, rfl, .of e1, i1 _ _, b, _, rfl, .inr (.of e3), fun t1 ht1 => ?_⟩
      have s10 : Same H9 (upd H9 t1 (.lst (l.map V.int))) := same_new ht1
      have e10 : (upd H9 t1 (.lst (l.map V.int))) t1 = some (.lst (l.map V.int)) := upd_same
      generalize upd H9 t1 (.lst (l.map V.int)) = H10 at *
      refine ⟨_, rfl, _, rfl, d, 2, rfl, (by obtain ⟨o, y⟩ := d9; exact ⟨o, s10 _ _ y⟩), by decide, fun z ds2 z0 z1 => ?_⟩
      have n1d : t1 ≠ d := fun z => by obtain ⟨o, y⟩ := d9; rw [← z, ht1] at y; cases y
      have k11 : Kp d H9 (upd H10 d (.lst (ds2.map V.int))) := (Same.kp s10).trans Kp.own
      have e11 : (upd H10 d (.lst (ds2.map V.int))) t1 = some (.lst (l.map V.int)) := by rw [upd_ne n1d]; exact e10
      have P11 := par_kp d9 k11 P9
      have LS11 : Las (upd H10 d (.lst (ds2.map V.int))) p h l := LS9.keep k11 d9
      generalize upd H10 d (.lst (ds2.map V.int)) = H11 at *
      obtain ⟨a, b, e1, e2, e3⟩ := id LS11
      refine ⟨_, _, rfl, rfl, by show 1 ≤ sizeLine; decide, fun t2 ht2 => ?_⟩
      have n12 : t1 ≠ t2 := fun z => by rw [z, ht2] at e11; cases e11
      refine ⟨t1, t2, _, _, rfl, rfl, by rw [upd_ne n12]; exact e11, upd_same, by rw [List.length_map]; exact Nat.le_trans (show l.length + 1 ≤ 1000 by omega) (by decide), fun t3 ht3 => ?_⟩
      have s13 : Same H11 (upd (upd H11 t2 (.lst [.int (L + z)])) t3 (.lst (l.map V.int ++ [.int (L + z)]))) := (same_new ht2).trans (same_new ht3)
      have e13 : (upd (upd H11 t2 (.lst [.int (L + z)])) t3 (.lst (l.map V.int ++ [.int (L + z)]))) t3 = some (.lst ((l ++ [L + z]).map V.int)) := by
        rw [upd_same, List.map_append]
        rfl
      generalize upd (upd H11 t2 (.lst [.int (L + z)])) t3 (.lst (l.map V.int ++ [.int (L + z)])) = H13 at *
      refine ⟨_, rfl, _, rfl, p, _, _, _, rfl, rfl, .of (s13 _ _ e1), i0 _ _, _, rfl, t3, _, rfl, .inl ⟨.of e13, fun t4 ht4 => ⟨by show 2 ≤ sizeLine; decide, fun t5 ht5 => ?_⟩⟩⟩
      have s14 := same_new (o := .tup ((l ++ [L + z]).map V.int)) ht4
      have s15 := same_new (o := .tup [.ref a, .ref t4]) ht5
      refine ⟨y, t5, L, st, ps, rows, h, l ++ [L + z], rfl, ((P11.same s13).same s14).same s15, hv, by omega, ⟨a, t4, upd_same, s15 _ _ (s14 _ _ (s13 _ _ e2)), s15 _ _ upd_same⟩, by simp, by omega, by rw [List.length_append]; show l.length + 1 ≤ 1000; omega, fun x hx => ?_, fun v H' s' hvv => ?_⟩
      · rcases hx with u | u
        · exact (hnn x (.inl u)).1
        · rcases List.mem_append.mp u with u | u
          · exact (hnn x (.inr u)).1
          · rw [List.mem_singleton.mp u]
            have := hv.1
            omega
      · rcases hvv with ⟨_, rfl⟩ | ⟨hlt, _⟩
        · exact ⟨rfl, q _⟩
        · have := hlt (L + z) (.inr (by simp))
          omega
    · -- the word
      refine ⟨_, rfl, _, rfl, _, rfl, _, rfl, pp, r, p, as, L, st, ps, rows, h, l, rfl, hp9, hL9, hv, by omega, LS9, ln, hnn, fun b hB => ?_⟩
      refine .inl ⟨_, rfl, ?_⟩
      refine ⟨_, _, rfl, rfl, (show (0 : Int) < 2 by decide), rfl, ?_⟩
      refine ⟨_, rfl, _, rfl, y, p, L, st, ps, rows, h, l, rfl, P9, hv, by omega, LS9, ln, by omega, by omega, fun x hx => (hnn x hx).1, fun v H10 s10 hvv => ?_⟩
      rcases hvv with ⟨⟨a, ha, hLa⟩, _⟩ | ⟨_, b', hB', rfl⟩
      · have := (hnn a ha).2
        omega
      have eb := hB'.uniq hB
      subst eb
      refine ⟨_, rfl, _, _, _, _, true, rfl, .ty "bool", .base (.bl _), kit_ty (by decide +kernel), true, rfl, ?_⟩
      refine ⟨_, rfl, _, rfl, rfl, _, rfl, ite_nb ?_⟩
      refine ⟨_, rfl, y, L, st, ps, rows, rfl, P9.same s10, hv, by omega, bps, brow, fun H11 y2 s11 P11 => ?_⟩
      refine ⟨_, rfl, y2, p, L, st, ps.map (· + 1), rows, h, l, rfl, P11, vld_up hv, by omega, (LS9.same s10).same s11, ln, by omega, by omega, fun x hx => (hnn x hx).1, fun v H12 s12 hvv => ?_⟩
      rcases hvv with ⟨⟨a, ha, hLa⟩, _⟩ | ⟨_, b2, hB2, rfl⟩
      · have := (hnn a ha).2
        omega
      have hd : ∀ s a, 0 ≤ s → s < (rows.length : Int) → 0 ≤ a → a < L → 0 ≤ dl rows s a ∧ dl rows s a < (rows.length : Int) := fun s a h0 h1 h2 h3 => dl_ok hv h0 h1 h2 h3
      have hs1 := (vb_range hd (w := h) (fun a ha => hnn a (.inl ha)) hv.2.2.2.1.1 hv.2.2.2.1.2).2
      have hlp : ∀ a ∈ l, 0 ≤ a ∧ a < L := fun a ha => hnn a (.inr ha)
      have hor := orb_range (w := l) hd hlp hs1.1 hs1.2
      have eb2 := hB2.uniq (hB.up1 hv.2.2.1 fun i => (vb_range hd hlp (hor i).1 (hor i).2).1)
      subst eb2
      refine ⟨_, rfl, _, _, _, _, true, rfl, .ty "bool", .base (.bl _), kit_ty (by decide +kernel), true, rfl, iteT ?_⟩
      refine ⟨_, rfl, _, rfl, rfl, ?_⟩
      rw [flip_ne]
      exact q _
end

theorem all_mk {l : PySem.W.OpenLaw} {w : World} {K : PySem.W.Frag} {h : Heap} {mg : Str → Option Value} {fa : Addr} {f0 f1 f2 f3 f4 f5 f6 f7 f8 f9 f10 f11 f12 cL cI C fI : Addr} (X : K.In h) (G : h.Ns mainGlobals mg) (hfa : mg "law" = some (.ref fa))
    {od0 an0 od1 an1 od2 an2 od3 an3 od4 an4 od5 an5 od6 an6 od7 an7 od8 an8 od9 an9 od10 an10 od11 an11 od12 an12 : Option Addr} {sl0 sl1 sl2 sl3 sl4 sl5 sl6 sl7 sl8 sl9 sl10 sl11 sl12 : Array (Option Value)} {oc0 kV0 dc0 pm0 cd0 ct0 oc1 kV1 dc1 pm1 cd1 ct1 oc2 kV2 dc2 pm2 cd2 ct2 oc3 kV3 dc3 pm3 cd3 ct3 oc4 kV4 dc4 pm4 cd4 ct4 oc5 kV5 dc5 pm5 cd5 ct5 oc6 kV6 dc6 pm6 cd6 ct6 oc7 kV7 dc7 pm7 cd7 ct7 oc8 kV8 dc8 pm8 cd8 ct8 oc9 kV9 dc9 pm9 cd9 ct9 oc10 kV10 dc10 pm10 cd10 ct10 oc11 kV11 dc11 pm11 cd11 ct11 oc12 kV12 dc12 pm12 cd12 ct12 : Value} {odI anI : Option Addr} {slI : Array (Option Value)} {ocI kVI dcI pmI cdI ctI : Value}
    (a0 : PySem.W.nsIn K mainGlobals "check_letters" = some (some (.ref f0))) (l0 : K.lookup f0 = some ⟨oc0, od0, .func (PySem.W.fnOf "check_letters" "check_letters" (defArgs s_check_letters) (defBody s_check_letters) (defScope s_check_letters) .none kV0 dc0 pm0 an0 cd0 ct0), sl0⟩) (c0 : PySem.W.codeIn K cd0 "check_letters" = true) (k0 : PySem.W.keepIn K (.ref f0) = true)
    (a1 : PySem.W.nsIn K mainGlobals "check_state" = some (some (.ref f1))) (l1 : K.lookup f1 = some ⟨oc1, od1, .func (PySem.W.fnOf "check_state" "check_state" (defArgs s_check_state) (defBody s_check_state) (defScope s_check_state) .none kV1 dc1 pm1 an1 cd1 ct1), sl1⟩) (c1 : PySem.W.codeIn K cd1 "check_state" = true) (k1 : PySem.W.keepIn K (.ref f1) = true)
    (a2 : PySem.W.nsIn K mainGlobals "accepts_parity" = some (some (.ref f2))) (l2 : K.lookup f2 = some ⟨oc2, od2, .func (PySem.W.fnOf "accepts_parity" "accepts_parity" (defArgs s_accepts_parity) (defBody s_accepts_parity) (defScope s_accepts_parity) .none kV2 dc2 pm2 an2 cd2 ct2), sl2⟩) (c2 : PySem.W.codeIn K cd2 "accepts_parity" = true) (k2 : PySem.W.keepIn K (.ref f2) = true)
    (a3 : PySem.W.nsIn K mainGlobals "complement_parity" = some (some (.ref f3))) (l3 : K.lookup f3 = some ⟨oc3, od3, .func (PySem.W.fnOf "complement_parity" "complement_parity" (defArgs s_complement_parity) (defBody s_complement_parity) (defScope s_complement_parity) .none kV3 dc3 pm3 an3 cd3 ct3), sl3⟩) (c3 : PySem.W.codeIn K cd3 "complement_parity" = true) (k3 : PySem.W.keepIn K (.ref f3) = true)
    (a4 : PySem.W.nsIn K mainGlobals "_law_cell" = some (some (.ref f4))) (l4 : K.lookup f4 = some ⟨oc4, od4, .func (PySem.W.fnOf "_law_cell" "_law_cell" (defArgs s_law_cell) (defBody s_law_cell) (defScope s_law_cell) .none kV4 dc4 pm4 an4 cd4 ct4), sl4⟩) (c4 : PySem.W.codeIn K cd4 "_law_cell" = true) (k4 : PySem.W.keepIn K (.ref f4) = true)
    (a5 : PySem.W.nsIn K mainGlobals "_law_draws" = some (some (.ref f5))) (l5 : K.lookup f5 = some ⟨oc5, od5, .func (PySem.W.fnOf "_law_draws" "_law_draws" (defArgs s_law_draws) (defBody s_law_draws) (defScope s_law_draws) .none kV5 dc5 pm5 an5 cd5 ct5), sl5⟩) (c5 : PySem.W.codeIn K cd5 "_law_draws" = true) (k5 : PySem.W.keepIn K (.ref f5) = true)
    (a6 : PySem.W.nsIn K mainGlobals "_law_take" = some (some (.ref f6))) (l6 : K.lookup f6 = some ⟨oc6, od6, .func (PySem.W.fnOf "_law_take" "_law_take" (defArgs s_law_take) (defBody s_law_take) (defScope s_law_take) .none kV6 dc6 pm6 an6 cd6 ct6), sl6⟩) (c6 : PySem.W.codeIn K cd6 "_law_take" = true) (k6 : PySem.W.keepIn K (.ref f6) = true)
    (a7 : PySem.W.nsIn K mainGlobals "_law_lasso" = some (some (.ref f7))) (l7 : K.lookup f7 = some ⟨oc7, od7, .func (PySem.W.fnOf "_law_lasso" "_law_lasso" (defArgs s_law_lasso) (defBody s_law_lasso) (defScope s_law_lasso) .none kV7 dc7 pm7 an7 cd7 ct7), sl7⟩) (c7 : PySem.W.codeIn K cd7 "_law_lasso" = true) (k7 : PySem.W.keepIn K (.ref f7) = true)
    (a8 : PySem.W.nsIn K mainGlobals "_law_flat" = some (some (.ref f8))) (l8 : K.lookup f8 = some ⟨oc8, od8, .func (PySem.W.fnOf "_law_flat" "_law_flat" (defArgs s_law_flat) (defBody s_law_flat) (defScope s_law_flat) .none kV8 dc8 pm8 an8 cd8 ct8), sl8⟩) (c8 : PySem.W.codeIn K cd8 "_law_flat" = true) (k8 : PySem.W.keepIn K (.ref f8) = true)
    (a9 : PySem.W.nsIn K mainGlobals "_law_parity" = some (some (.ref f9))) (l9 : K.lookup f9 = some ⟨oc9, od9, .func (PySem.W.fnOf "_law_parity" "_law_parity" (defArgs s_law_parity) (defBody s_law_parity) (defScope s_law_parity) .none kV9 dc9 pm9 an9 cd9 ct9), sl9⟩) (c9 : PySem.W.codeIn K cd9 "_law_parity" = true) (k9 : PySem.W.keepIn K (.ref f9) = true)
    (a10 : PySem.W.nsIn K mainGlobals "_law_best" = some (some (.ref f10))) (l10 : K.lookup f10 = some ⟨oc10, od10, .func (PySem.W.fnOf "_law_best" "_law_best" (defArgs s_law_best) (defBody s_law_best) (defScope s_law_best) .none kV10 dc10 pm10 an10 cd10 ct10), sl10⟩) (c10 : PySem.W.codeIn K cd10 "_law_best" = true) (k10 : PySem.W.keepIn K (.ref f10) = true)
    (a11 : PySem.W.nsIn K mainGlobals "_law_outcome" = some (some (.ref f11))) (l11 : K.lookup f11 = some ⟨oc11, od11, .func (PySem.W.fnOf "_law_outcome" "_law_outcome" (defArgs s_law_outcome) (defBody s_law_outcome) (defScope s_law_outcome) .none kV11 dc11 pm11 an11 cd11 ct11), sl11⟩) (c11 : PySem.W.codeIn K cd11 "_law_outcome" = true) (k11 : PySem.W.keepIn K (.ref f11) = true)
    (a12 : PySem.W.nsIn K mainGlobals "law" = some (some (.ref f12))) (l12 : K.lookup f12 = some ⟨oc12, od12, .func (PySem.W.fnOf "law" "law" (defArgs s_law) (defBody s_law) (defScope s_law) .none kV12 dc12 pm12 an12 cd12 ct12), sl12⟩) (c12 : PySem.W.codeIn K cd12 "law" = true) (k12 : PySem.W.keepIn K (.ref f12) = true)
    (z0 : PySem.W.nsIn K mainGlobals "bool" = some none) (z1 : PySem.W.nsIn K mainGlobals "int" = some none) (z2 : PySem.W.nsIn K mainGlobals "isinstance" = some none) (z3 : PySem.W.nsIn K mainGlobals "len" = some none) (z4 : PySem.W.nsIn K mainGlobals "list" = some none) (z5 : PySem.W.nsIn K mainGlobals "max" = some none) (z6 : PySem.W.nsIn K mainGlobals "min" = some none) (z7 : PySem.W.nsIn K mainGlobals "range" = some none) (z8 : PySem.W.nsIn K mainGlobals "tuple" = some none) (va : PySem.W.nsIn K mainGlobals "InvalidLetter" = some (some (.ref cL))) (vb : PySem.W.excIn K cL [.type "ValueError", .type "Exception", .type "BaseException", .type "object"] "ValueError.__new__" = true) (vc : PySem.W.keepIn K (.ref cL) = true) (vd : PySem.W.typeIn K (.ref cL) = some (.type "type")) (ve : PySem.W.subIn K (.ref cL) (.ref cL) = some true) (vf : PySem.W.findIn K (.ref cL) "__getattribute__" = some (some (.builtin "BaseException.__getattribute__"))) (vg : PySem.W.findIn K (.ref cL) "__getattr__" = some none) (vh : PySem.W.subIn K (.ref cL) (.type "BaseException") = some true) (vi : PySem.W.hasDictIn K cL = true) (vj : PySem.W.findIn K (.ref cL) "__class__" = some (some (.builtin "object.__class__"))) (vk : PySem.W.specialIn K (.builtin "object.__class__") "__get__" = some (some (.builtin "getset_descriptor.__get__"))) (vl : PySem.W.takesIn K (.builtin "object.__class__") = some true) (vm : PySem.W.mroIn K cL (.type "object") = some true) (xa : PySem.W.nsIn K mainGlobals "InvalidAutomaton" = some (some (.ref cI))) (xb : PySem.W.excIn K cI [.type "ValueError", .type "Exception", .type "BaseException", .type "object"] "ValueError.__new__" = true) (xc : PySem.W.keepIn K (.ref cI) = true) (xd : PySem.W.typeIn K (.ref cI) = some (.type "type")) (xe : PySem.W.subIn K (.ref cI) (.ref cI) = some true) (xf : PySem.W.findIn K (.ref cI) "__getattribute__" = some (some (.builtin "BaseException.__getattribute__"))) (xg : PySem.W.findIn K (.ref cI) "__getattr__" = some none) (xh : PySem.W.subIn K (.ref cI) (.type "BaseException") = some true) (xi : PySem.W.hasDictIn K cI = true) (xj : PySem.W.findIn K (.ref cI) "__class__" = some (some (.builtin "object.__class__"))) (xk : PySem.W.specialIn K (.builtin "object.__class__") "__get__" = some (some (.builtin "getset_descriptor.__get__"))) (xl : PySem.W.takesIn K (.builtin "object.__class__") = some true) (xm : PySem.W.mroIn K cI (.type "object") = some true) (ya : PySem.W.nsIn K mainGlobals "ParityAutomaton" = some (some (.ref C))) (yb : PySem.W.plainGet K C Str.empty = true) (yc : PySem.W.hasDictIn K C = true) (yd : PySem.W.plainOver K C = true) (ye : PySem.W.findIn K (.ref C) "__setattr__" = some (some (.builtin "object.__setattr__"))) (yf : PySem.W.findIn K (.ref C) "letters" = some none) (yg : PySem.W.findIn K (.ref C) "start" = some none) (yh : PySem.W.findIn K (.ref C) "priorities" = some none) (yi : PySem.W.findIn K (.ref C) "rows" = some none) (yj : PySem.W.makesIn K C = true) (yk : PySem.W.findIn K (.ref C) "__init__" = some (some (.ref fI))) (yl : PySem.W.isFn K (.ref fI) = true) (ym : PySem.W.keepIn K (.ref C) = true) (yn : K.lookup fI = some ⟨ocI, odI, .func (PySem.W.fnOf "__init__" "ParityAutomaton.__init__" (defArgs s_ParityAutomaton_init) (defBody s_ParityAutomaton_init) (defScope s_ParityAutomaton_init) .none kVI dcI pmI anI cdI ctI), slI⟩) (yo : PySem.W.codeIn K cdI "ParityAutomaton.__init__" = true) (yp : PySem.W.keepIn K (.ref fI) = true) :
    ∃ fd : FuncData, (∀ (s : Shared) (v : Value), BindsTo s fd ⟨[v], []⟩ [("script", v)]) ∧ ∀ base : Heap, K.In base → base.Ns mainGlobals mg → FnOk l.prog w K mg base CX0 6 fa fd ["script"] (spLaw K) := by
  have e := hfa.symm.trans (PySem.W.mg_of X G a12)
  cases e
  have T : Txt K mg := ⟨⟨f0, _, fun_mk (st := s_check_letters) l0 c0 k0, PySem.W.mg_of X G a0, (fun_mk (st := s_check_letters) l0 c0 k0).binds fun _ _ _ _ _ _ us hl => match us, hl with | [_, _], _ => rfl⟩, ⟨f1, _, fun_mk (st := s_check_state) l1 c1 k1, PySem.W.mg_of X G a1, (fun_mk (st := s_check_state) l1 c1 k1).binds fun _ _ _ _ _ _ us hl => match us, hl with | [_, _], _ => rfl⟩, ⟨f2, _, fun_mk (st := s_accepts_parity) l2 c2 k2, PySem.W.mg_of X G a2, (fun_mk (st := s_accepts_parity) l2 c2 k2).binds fun _ _ _ _ _ _ us hl => match us, hl with | [_, _], _ => rfl⟩, ⟨f3, _, fun_mk (st := s_complement_parity) l3 c3 k3, PySem.W.mg_of X G a3, (fun_mk (st := s_complement_parity) l3 c3 k3).binds fun _ _ _ _ _ _ us hl => match us, hl with | [_], _ => rfl⟩, ⟨f4, _, fun_mk (st := s_law_cell) l4 c4 k4, PySem.W.mg_of X G a4, (fun_mk (st := s_law_cell) l4 c4 k4).binds fun _ _ _ _ _ _ us hl => match us, hl with | [_, _], _ => rfl⟩, ⟨f5, _, fun_mk (st := s_law_draws) l5 c5 k5, PySem.W.mg_of X G a5, (fun_mk (st := s_law_draws) l5 c5 k5).binds fun _ _ _ _ _ _ us hl => match us, hl with | [_, _], _ => rfl⟩, ⟨f6, _, fun_mk (st := s_law_take) l6 c6 k6, PySem.W.mg_of X G a6, (fun_mk (st := s_law_take) l6 c6 k6).binds fun _ _ _ _ _ _ us hl => match us, hl with | [_, _], _ => rfl⟩, ⟨f7, _, fun_mk (st := s_law_lasso) l7 c7 k7, PySem.W.mg_of X G a7, (fun_mk (st := s_law_lasso) l7 c7 k7).binds fun _ _ _ _ _ _ us hl => match us, hl with | [_, _, _], _ => rfl⟩, ⟨f8, _, fun_mk (st := s_law_flat) l8 c8 k8, PySem.W.mg_of X G a8, (fun_mk (st := s_law_flat) l8 c8 k8).binds fun _ _ _ _ _ _ us hl => match us, hl with | [_], _ => rfl⟩, ⟨f9, _, fun_mk (st := s_law_parity) l9 c9 k9, PySem.W.mg_of X G a9, (fun_mk (st := s_law_parity) l9 c9 k9).binds fun _ _ _ _ _ _ us hl => match us, hl with | [_, _, _], _ => rfl⟩, ⟨f10, _, fun_mk (st := s_law_best) l10 c10 k10, PySem.W.mg_of X G a10, (fun_mk (st := s_law_best) l10 c10 k10).binds fun _ _ _ _ _ _ us hl => match us, hl with | [_, _, _, _], _ => rfl⟩, ⟨f11, _, fun_mk (st := s_law_outcome) l11 c11 k11, PySem.W.mg_of X G a11, (fun_mk (st := s_law_outcome) l11 c11 k11).binds fun _ _ _ _ _ _ us hl => match us, hl with | [_, _], _ => rfl⟩, PySem.W.mg_none_of X G z0, PySem.W.mg_none_of X G z1, PySem.W.mg_none_of X G z2, PySem.W.mg_none_of X G z3, PySem.W.mg_none_of X G z4, PySem.W.mg_none_of X G z5, PySem.W.mg_none_of X G z6, PySem.W.mg_none_of X G z7, PySem.W.mg_none_of X G z8, ⟨cL, ⟨PySem.W.mg_of X G va, vb, vc, vd, ve, ⟨vf, vg, vh, vi, vj, vk, vl, vm⟩⟩, cI, C, fI, _, ⟨PySem.W.mg_of X G xa, xb, xc, xd, xe, ⟨xf, xg, xh, xi, xj, xk, xl, xm⟩⟩, ⟨⟨yb, yc, yd, ye⟩, yf, yg, yh, yi⟩, ⟨yj, yk, yl, ym⟩, PySem.W.mg_of X G ya, fun_mk (st := s_ParityAutomaton_init) yn yo yp, (fun_mk (st := s_ParityAutomaton_init) yn yo yp).binds fun _ _ _ _ _ _ us hl => match us, hl with | [_, _, _, _, _], _ => rfl⟩⟩
  exact ⟨_, fun s v => .of_eq rfl, fun base _ _ => ok_law (fun_mk (st := s_law) l12 c12 k12) T⟩
end My
open PySem PySem.W PyProof.Rows
set_option maxHeartbeats 0 in
theorem PySem.Challenge.cw_reactivesynth_k23_accepts_parity_holds : PySem.Challenge.rw_reactivesynth_k23_accepts_parity.Holds := by
  w_on; o_law; k_head; (case hw => w_witness2)
  k_fill
  refine L2.walk_of (l := PySem.Challenge.rw_reactivesynth_k23_accepts_parity) (n := 63) (k := 6) (x := "script") (CX := fun _ => L2.CX0) (sp := fun w => My.spLaw _) rfl (by decide) rfl ⟨rfl, by decide, by decide⟩ (fun w h Y => PySem.W.kIn_of Y) ?F (fun _ _ a ns hl _ hS => ⟨a, ns, rfl, hS, hl, fun _ => rfl⟩) (fun _ _ _ _ _ h => h)
  case F =>
    intro w mg fa h KX G hmg
    refine' My.all_mk KX G hmg ?a0 ?l0 ?c0 ?k0 ?a1 ?l1 ?c1 ?k1 ?a2 ?l2 ?c2 ?k2 ?a3 ?l3 ?c3 ?k3 ?a4 ?l4 ?c4 ?k4 ?a5 ?l5 ?c5 ?k5 ?a6 ?l6 ?c6 ?k6 ?a7 ?l7 ?c7 ?k7 ?a8 ?l8 ?c8 ?k8 ?a9 ?l9 ?c9 ?k9 ?a10 ?l10 ?c10 ?k10 ?a11 ?l11 ?c11 ?k11 ?a12 ?l12 ?c12 ?k12 ?z0 ?z1 ?z2 ?z3 ?z4 ?z5 ?z6 ?z7 ?z8 ?va ?vb ?vc ?vd ?ve ?vf ?vg ?vh ?vi ?vj ?vk ?vl ?vm ?xa ?xb ?xc ?xd ?xe ?xf ?xg ?xh ?xi ?xj ?xk ?xl ?xm ?ya ?yb ?yc ?yd ?ye ?yf ?yg ?yh ?yi ?yj ?yk ?yl ?ym ?yn ?yo ?yp
    (case a0 => k_is); (case l0 => k_is); (case c0 => k_is); (case k0 => k_is); (case a1 => k_is); (case l1 => k_is); (case c1 => k_is); (case k1 => k_is); (case a2 => k_is); (case l2 => k_is); (case c2 => k_is); (case k2 => k_is); (case a3 => k_is); (case l3 => k_is); (case c3 => k_is); (case k3 => k_is); (case a4 => k_is); (case l4 => k_is); (case c4 => k_is); (case k4 => k_is); (case a5 => k_is); (case l5 => k_is); (case c5 => k_is); (case k5 => k_is); (case a6 => k_is); (case l6 => k_is); (case c6 => k_is); (case k6 => k_is); (case a7 => k_is); (case l7 => k_is); (case c7 => k_is); (case k7 => k_is); (case a8 => k_is); (case l8 => k_is); (case c8 => k_is); (case k8 => k_is); (case a9 => k_is); (case l9 => k_is); (case c9 => k_is); (case k9 => k_is); (case a10 => k_is); (case l10 => k_is); (case c10 => k_is); (case k10 => k_is); (case a11 => k_is); (case l11 => k_is); (case c11 => k_is); (case k11 => k_is); (case a12 => k_is); (case l12 => k_is); (case c12 => k_is); (case k12 => k_is); (case z0 => k_is); (case z1 => k_is); (case z2 => k_is); (case z3 => k_is); (case z4 => k_is); (case z5 => k_is); (case z6 => k_is); (case z7 => k_is); (case z8 => k_is); (case va => k_is); (case vb => first | k_exc | rfl | k_is); (case vc => k_is); (case vd => k_is); (case ve => k_is); (case vf => k_is); (case vg => k_is); (case vh => k_is); (case vi => k_is); (case vj => k_is); (case vk => k_is); (case vl => k_is); (case vm => k_is); (case xa => first | rfl | k_is); (case xb => first | k_exc | rfl | k_is); (case xc => first | rfl | k_is); (case xd => first | rfl | k_is); (case xe => first | rfl | k_is); (case xf => first | rfl | k_is); (case xg => first | rfl | k_is); (case xh => first | rfl | k_is); (case xi => first | rfl | k_is); (case xj => first | rfl | k_is); (case xk => first | rfl | k_is); (case xl => first | rfl | k_is); (case xm => first | rfl | k_is); (case ya => k_is); (case yb => k_is); (case yc => k_is); (case yd => k_is); (case ye => k_is); (case yf => k_is); (case yg => k_is); (case yh => k_is); (case yi => k_is); (case yj => k_is); (case yk => k_is); (case yl => k_is); (case ym => k_is); (case yn => k_is); (case yo => k_is); (case yp => k_is)
