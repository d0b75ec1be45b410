import PyProof.Rows.All
import Wide.All
import OpenK.AllK
import Wide.FinOn
import HandS.ForMost
import HandS.ForExc
import HandS.ExcIs
import HandS.ExcOwn
import HandS.WordsExc
import HandS.TryMany
import HandS.TryOnly
import HandS.Codes
import HandS.IsInst
import HandS.TupAny
import HandS.TupMul
import HandS.SortKw
import KE.KMinKey
import PyProof.WalksMore
import PySem.Challenge.RW_reactivesynth_k16_automaton
set_option Elab.async false
set_option linter.all false
set_option maxRecDepth 100000
set_option maxHeartbeats 4000000
namespace Wd
/-- m is the length of a proper border of the first k letters -/
def Bd (w : Nat → Int) (k m : Nat) : Prop := m < k ∧ ∀ i, i < m → w i = w (k - m + i)
/-- .. the greatest -/
def Lg (w : Nat → Int) (k m : Nat) : Prop := Bd w k m ∧ ∀ j, Bd w k j → j ≤ m
theorem Bd.zero {w : Nat → Int} {k : Nat} (h : 0 < k) : Bd w k 0 := ⟨h, fun i hi => absurd hi (Nat.not_lt_zero i)⟩
theorem Bd.down {w : Nat → Int} {k m : Nat} (h : Bd w (k + 1) (m + 1)) : Bd w k m ∧ w m = w k := by
  obtain ⟨h1, h2⟩ := h
  refine ⟨⟨by omega, fun i hi => ?_⟩, ?_⟩
  · have := h2 i (by omega)
    rw [this]
    congr 1
    omega
  · have := h2 m (by omega)
    rw [this]
    congr 1
    omega
theorem Bd.up {w : Nat → Int} {k m : Nat} (h : Bd w k m) (e : w m = w k) : Bd w (k + 1) (m + 1) := by
  obtain ⟨h1, h2⟩ := h
  refine ⟨by omega, fun i hi => ?_⟩
  rcases Nat.lt_or_ge i m with c | c
  · rw [h2 i c]
    congr 1
    omega
  · have : i = m := by omega
    subst this
    rw [e]
    congr 1
    omega
theorem Bd.inner {w : Nat → Int} {k b j : Nat} (h : Bd w k b) (g : Bd w k j) (l : j < b) : Bd w b j := by
  obtain ⟨h1, h2⟩ := h
  obtain ⟨g1, g2⟩ := g
  refine ⟨l, fun i hi => ?_⟩
  rw [g2 i hi, h2 (b - j + i) (by omega)]
  congr 1
  omega
theorem Bd.trans {w : Nat → Int} {k b j : Nat} (h : Bd w k b) (g : Bd w b j) : Bd w k j := by
  obtain ⟨h1, h2⟩ := h
  obtain ⟨g1, g2⟩ := g
  refine ⟨by omega, fun i hi => ?_⟩
  rw [g2 i hi, h2 (b - j + i) (by omega)]
  congr 1
  omega
/-- what the inner loop keeps: b is a border of the first k letters, and no border of the first k + 1 is longer than b + 1 -/
def In (w : Nat → Int) (k b : Nat) : Prop := Bd w k b ∧ ∀ j, Bd w (k + 1) (j + 1) → j ≤ b
theorem In.start {w : Nat → Int} {k b : Nat} (h : Lg w k b) : In w k b := ⟨h.1, fun j hj => h.2 j hj.down.1⟩
theorem In.step {w : Nat → Int} {k b c : Nat} (h : In w k b) (hb : 0 < b) (ne : w k ≠ w b) (g : Lg w b c) : In w k c ∧ c < b := by
  refine ⟨⟨h.1.trans g.1, fun j hj => ?_⟩, g.1.1⟩
  have h1 := h.2 j hj
  obtain ⟨h2, h3⟩ := hj.down
  have : j ≠ b := fun z => ne (by rw [← h3, z])
  exact g.2 j (h.1.inner h2 (by omega))
theorem In.found {w : Nat → Int} {k b : Nat} (h : In w k b) (e : w k = w b) : Lg w (k + 1) (b + 1) := by
  refine ⟨h.1.up e.symm, fun j hj => ?_⟩
  cases j with
  | zero => omega
  | succ j => exact Nat.succ_le_succ (h.2 j hj)
theorem In.none {w : Nat → Int} {k : Nat} (h : In w k 0) (ne : w k ≠ w 0) : Lg w (k + 1) 0 := by
  refine ⟨Bd.zero (by omega), fun j hj => ?_⟩
  cases j with
  | zero => omega
  | succ j =>
    have h1 := h.2 j hj
    have : j = 0 := by omega
    subst this
    exact absurd hj.down.2.symm ne
/-! periods -/
/-- the letters of the word without end that repeats the first n letters -/
def cyc (w : Nat → Int) (n i : Nat) : Int := w (i % n)
def Rp (w : Nat → Int) (n p : Nat) : Prop := ∀ i, cyc w n (i + p) = cyc w n i
theorem Rp.mul {w : Nat → Int} {n p : Nat} (h : Rp w n p) : ∀ k i, cyc w n (i + k * p) = cyc w n i
  | 0, i => by rw [Nat.zero_mul, Nat.add_zero]
  | k + 1, i => by
    rw [Nat.succ_mul, ← Nat.add_assoc, h, h.mul k i]
theorem Rp.mod {w : Nat → Int} {n p i : Nat} (h : Rp w n p) : cyc w n i = cyc w n (i % p) := by
  have := h.mul (i / p) (i % p)
  rw [Nat.mul_comm, Nat.mod_add_div] at this
  exact this
theorem cyc_lt {w : Nat → Int} {n i : Nat} (h : i < n) : cyc w n i = w i := by
  unfold cyc
  rw [Nat.mod_eq_of_lt h]
theorem rp_self (w : Nat → Int) (n : Nat) : Rp w n n := fun i => by
  unfold cyc
  rw [Nat.add_mod_right]
/-- a period of the finite word that divides its length is one of the word without end -/
theorem rp_of {w : Nat → Int} {n p : Nat} (hp : 0 < p) (hd : p ∣ n) (hn : 0 < n) (h : ∀ i, i + p < n → w i = w (i + p)) : Rp w n p := by
  have red : ∀ k i, i + k * p < n → w (i + k * p) = w i := by
    intro k
    induction k with
    | zero => intro i _; rw [Nat.zero_mul, Nat.add_zero]
    | succ k ih =>
      intro i hi
      rw [Nat.succ_mul] at hi ⊢
      rw [← Nat.add_assoc, ← h (i + k * p) (by omega)]
      exact ih i (by omega)
  have toMod : ∀ i, cyc w n i = w (i % p) := by
    intro i
    unfold cyc
    have h1 : i % n < n := Nat.mod_lt _ hn
    have e : i % n % p + (i % n / p) * p = i % n := by
      rw [Nat.mul_comm]
      exact Nat.mod_add_div _ _
    have h2 := red (i % n / p) (i % n % p) (by rw [e]; exact h1)
    rw [e] at h2
    rw [h2, Nat.mod_mod_of_dvd _ hd]
  intro i
  rw [toMod, toMod, Nat.add_mod_right]
/-- the least repetition: r divides n, the word repeats its first r letters, and no shorter one does -/
structure Least (w : Nat → Int) (n r : Nat) : Prop where
  pos : 0 < r
  dvd : r ∣ n
  rp : Rp w n r
  min : ∀ p, 0 < p → p ∣ n → Rp w n p → r ≤ p
theorem least_of {w : Nat → Int} {n b : Nat} (hn : 0 < n) (h : Lg w n b) : Least w n (if n % (n - b) = 0 then n - b else n) := by
  obtain ⟨⟨hb, h1⟩, h2⟩ := h
  have hs : 0 < n - b := by omega
  -- n - b is the least period of the finite word
  have per : ∀ i, i + (n - b) < n → w i = w (i + (n - b)) := fun i hi => by
    have := h1 i (by omega)
    rw [this]
    congr 1
    omega
  have low : ∀ p, 0 < p → p ≤ n → (∀ i, i + p < n → w i = w (i + p)) → n - b ≤ p := fun p hp hpn hq => by
    have := h2 (n - p) ⟨by omega, fun i hi => by
      have := hq i (by omega)
      rw [this]
      congr 1
      omega⟩
    omega
  have fin : ∀ p, Rp w n p → ∀ i, i + p < n → w i = w (i + p) := fun p hp i hi => by
    have := hp i
    rw [cyc_lt hi, cyc_lt (by omega)] at this
    exact this.symm
  -- a shorter repetition makes n - b a repetition
  have key : ∀ p, 0 < p → p ∣ n → p < n → Rp w n p → n % (n - b) = 0 ∧ n - b ≤ p := by
    intro p hp hd hlt hr
    have le := low p hp (by omega) (fin p hr)
    obtain ⟨q, hq⟩ := hd
    have hq2 : 2 ≤ q := by
      rcases Nat.lt_or_ge q 2 with c | c
      · have : q = 0 ∨ q = 1 := by omega
        rcases this with z | z
        · rw [z] at hq; omega
        · rw [z] at hq; omega
      · exact c
    have h2p : 2 * p ≤ n := by
      rw [hq, Nat.mul_comm 2 p]
      exact Nat.mul_le_mul_left p hq2
    have rs : Rp w n (n - b) := by
      intro i
      have e1 : cyc w n (i + (n - b)) = cyc w n (i % p + (n - b)) := by
        have := hr.mul (i / p) (i % p + (n - b))
        rw [← this]
        congr 1
        have := Nat.mod_add_div i p
        rw [Nat.mul_comm (i / p) p]
        omega
      have hm : i % p < p := Nat.mod_lt _ hp
      rw [e1, hr.mod (i := i), cyc_lt (show i % p + (n - b) < n by omega), cyc_lt (show i % p < n by omega)]
      exact (per _ (by omega)).symm
    -- p is a multiple of n - b
    have hmod : p % (n - b) = 0 := by
      rcases Nat.eq_zero_or_pos (p % (n - b)) with z | z
      · exact z
      · have lt : p % (n - b) < n - b := Nat.mod_lt _ hs
        have rm : Rp w n (p % (n - b)) := by
          intro i
          have a := rs.mul (p / (n - b)) (i + p % (n - b))
          have e : i + p % (n - b) + p / (n - b) * (n - b) = i + p := by
            rw [Nat.mul_comm, Nat.add_assoc, Nat.mod_add_div]
          rw [e] at a
          rw [← a]
          exact hr i
        have := low _ z (by omega) (fin _ rm)
        omega
    refine ⟨?_, le⟩
    exact Nat.mod_eq_zero_of_dvd (Nat.dvd_trans (Nat.dvd_of_mod_eq_zero hmod) ⟨q, hq⟩)
  by_cases c : n % (n - b) = 0
  · rw [if_pos c]
    refine ⟨hs, Nat.dvd_of_mod_eq_zero c, rp_of hs (Nat.dvd_of_mod_eq_zero c) hn per, fun p hp hd hr => ?_⟩
    exact low p hp (Nat.le_of_dvd hn hd) (fin p hr)
  · rw [if_neg c]
    refine ⟨hn, Nat.dvd_refl n, rp_self w n, fun p hp hd hr => ?_⟩
    have le := Nat.le_of_dvd hn hd
    rcases Nat.lt_or_ge p n with l | l
    · exact absurd (key p hp hd l hr).1 c
    · exact l
end Wd
/-! ### min(xs, default=d) of a list of ints: own rule -/
namespace MinD
open PySem PySem.W PyProof.Rows
def kwD (d : Value) : List (Str × Value) := [(Str.ofString "default", d)]
theorem nameL : (toString "min" ++ toString ".loop" : String) = "min.loop" := by decide
section
variable {prog : Program} {w : World} {A : Around} {R : Result → Shared → Prop} {I S : Addr} {fp wr : List Addr} {n : Nat} {P : Nat → Value → Prop} {St : Nat → Heap → Prop} {d : Value}
theorem loopD (W : Walks prog w A.in1 I fp wr n P St) (bt : Nat → Nat → Bool) (cm : CmpOf prog w A.in1 .Lt P bt) (nf : S ∉ fp) :
    ∀ (m j : Nat) (u : Shared) (best : Value) (c : Nat), n - (j + 1) = m → j + 1 ≤ n → St (j + 1) u.heap → P (argBest bt j) best →
    u.heap.get? S = some { cls := .type "list", dict := none, data := .seq #[best, best] c, slots := #[] } →
    (∀ v g tk, P (argBest bt (n - 1)) v → (∀ b o, b ∉ wr → b ≠ S → u.heap.get? b = some o → g.get? b = some o) → R (.ok (.ret v)) { u with heap := g, toks := tk }) →
    codeAny (model prog w) A (.builtin "min.loop" ⟨[.ref I, .none, .ref S], kwD d⟩) R u := by
  have nw : S ∉ wr := fun q => nf (W.sub _ q)
  intro m
  induction m with
  | zero =>
    intro j u best c em hj st pb gS out
    have ej : j + 1 = n := by omega
    refine codeAny_builtin PySem.F.entry_min_loop ?_
    rw [Around.under_plainId PySem.F.plain_min_loop _]
    show wpAny _ A.in1 (seqItems? (.ref S) >>= _) _ _ u
    refine wpAny_bind (wpAny_seqItems gS rfl ?_)
    show wpAny _ A.in1 (tryCatch (pyNext (.ref I)) _ >>= _) _ _ u
    refine wpAny_bind (wpAny_tryCatch (W.done u _ _ (ej ▸ st) fun g tk keep => ?_))
    have gS2 := keep S _ nw gS
    show wpAny _ A.in1 (updateSeq S (fun _ => #[]) >>= _) _ _ _
    refine wpAny_bind (wpAny_updateSeq gS2 rfl (wpAny_bind (wpAny_letGo (wpAny_pure ?_))))
    exact out best _ tk (by rw [← ej]; exact pb) fun b o hb hS e => (Heap.get?_update_other _ _ (Ne.symm hS)).trans (keep b o hb e)
  | succ m ih =>
    intro j u best c em hj st pb gS out
    have lt : j + 1 < n := by omega
    refine codeAny_builtin PySem.F.entry_min_loop ?_
    rw [Around.under_plainId PySem.F.plain_min_loop _]
    show wpAny _ A.in1 (seqItems? (.ref S) >>= _) _ _ u
    refine wpAny_bind (wpAny_seqItems gS rfl ?_)
    show wpAny _ A.in1 (tryCatch (pyNext (.ref I)) _ >>= _) _ _ u
    refine wpAny_bind (wpAny_tryCatch (W.item (j + 1) u _ _ lt st fun v g tk pv st2 keep => ?_))
    have gS2 := keep S _ nw gS
    show wpAny _ A.in1 (tryCatch (holding [v, v] (richCompare .Lt v best >>= _)) _ >>= _) _ _ _
    refine wpAny_bind (wpAny_tryCatch (wpAny_holding (wpAny_bind (cm (j + 1) (argBest bt j) v best _ _ _ pv pb ?_))))
    refine wpAny_bind (wpAny_holding (wpAny_truthy_bool (wpAny_bind (wpAny_letGo (wpAny_pure ?_)))))
    cases hb : bt (j + 1) (argBest bt j) with
    | true =>
      simp only [if_true]
      refine wpAny_bind (wpAny_updateSeq gS2 rfl (wpAny_bind (wpAny_letGo ?_)))
      rw [nameL]
      refine wpAny_pure ⟨plainId_quiet PySem.F.plain_min_loop _, ih (j + 1) _ v _ (by omega) lt (W.frame _ _ _ st2 fun b bf o e => ?_) (by simp only [argBest, hb, if_true]; exact pv) (Heap.get?_update_self _ gS2 rfl)
        fun v2 g2 tk2 p2 keep2 => ?_⟩
      · exact (Heap.get?_update_other _ _ (fun q : S = b => nf (by rw [q]; exact bf))).trans e
      · exact out v2 g2 tk2 p2 fun b o hw hS e => keep2 b o hw hS ((Heap.get?_update_other _ _ (Ne.symm hS)).trans (keep b o hw e))
    | false =>
      simp only [Bool.false_eq_true, if_false]
      refine wpAny_bind (wpAny_letGo ?_)
      rw [nameL]
      exact wpAny_pure ⟨plainId_quiet PySem.F.plain_min_loop _, ih (j + 1) _ best c (by omega) lt st2 (by simp only [argBest, hb, Bool.false_eq_true, if_false]; exact pb) gS2 fun v2 g2 tk2 p2 keep2 =>
        out v2 g2 tk2 p2 fun b o hw hS e => keep2 b o hw hS (keep b o hw e)⟩
theorem firstD (W : Walks prog w A.in1 I fp wr n P St) (bt : Nat → Nat → Bool) (cm : CmpOf prog w A.in1 .Lt P bt) (nf : S ∉ fp) {u : Shared} {c : Nat} (st : St 0 u.heap)
    (gS : u.heap.get? S = some { cls := .type "list", dict := none, data := .seq #[] c, slots := #[] })
    (out : ∀ v g tk, (0 < n → P (argBest bt (n - 1)) v) → (n = 0 → v = d) → (∀ b o, b ∉ wr → b ≠ S → u.heap.get? b = some o → g.get? b = some o) → R (.ok (.ret v)) { u with heap := g, toks := tk }) :
    codeAny (model prog w) A (.builtin "min.loop" ⟨[.ref I, .none, .ref S], kwD d⟩) R u := by
  have nw : S ∉ wr := fun q => nf (W.sub _ q)
  refine codeAny_builtin PySem.F.entry_min_loop ?_
  rw [Around.under_plainId PySem.F.plain_min_loop _]
  show wpAny _ A.in1 (seqItems? (.ref S) >>= _) _ _ u
  refine wpAny_bind (wpAny_seqItems gS rfl ?_)
  show wpAny _ A.in1 (tryCatch (pyNext (.ref I)) _ >>= _) _ _ u
  by_cases h0 : 0 < n
  · refine wpAny_bind (wpAny_tryCatch (W.item 0 u _ _ h0 st fun v g tk pv st2 keep => ?_))
    have gS2 := keep S _ nw gS
    show wpAny _ A.in1 (updateSeq S (fun _ => #[v, v]) >>= _) _ _ _
    refine wpAny_bind (wpAny_updateSeq gS2 rfl ?_)
    rw [nameL]
    refine wpAny_pure ⟨plainId_quiet PySem.F.plain_min_loop _, loopD W bt cm nf _ 0 _ v _ rfl h0 (W.frame _ _ _ st2 fun b bf o e => ?_) pv (Heap.get?_update_self _ gS2 rfl) fun v2 g2 tk2 p2 keep2 => ?_⟩
    · exact (Heap.get?_update_other _ _ (fun q : S = b => nf (by rw [q]; exact bf))).trans e
    · exact out v2 g2 tk2 (fun _ => p2) (fun z => by omega) fun b o hw hS e => keep2 b o hw hS ((Heap.get?_update_other _ _ (Ne.symm hS)).trans (keep b o hw e))
  · have e0 : n = 0 := by omega
    refine wpAny_bind (wpAny_tryCatch (W.done u _ _ (by rw [e0]; exact st) fun g tk keep => ?_))
    show wpAny _ A.in1 (rule _ >>= _) _ _ _
    refine wpAny_bind (wpAny_rule (wpAny_pure ?_))
    exact out d g tk (fun z => absurd z h0) (fun _ => rfl) fun b o hw _ e => keep b o hw e
end
section
variable {prog : Program} {w : World} {A : Around} {E : Value → Shared → Prop} {s : Shared} {d : Value}
theorem args_d (a v : Value) : argsOk "min" ⟨[a], kwD v⟩ := by
  unfold argsOk
  kernel_rfl
theorem callD {l : Addr} {xs : Array (Int × Tok)} {Q : Value → Shared → Prop} (hh : A.handled = none) (hl : s.heap.IsList l (intItems xs))
    (h : ∀ v g tk, (0 < xs.size → (intItems xs)[argBest (fun i j => decide (numAt xs i < numAt xs j)) (xs.size - 1)]? = some v) → (xs.size = 0 → v = d) → (∀ b o, s.heap.get? b = some o → g.get? b = some o) → Q v { s with heap := g, toks := tk }) :
    wpAny (model prog w) A (call (.builtin "min") [.ref l] (kwD d)) Q E s := by
  refine kmk_tree PySem.F.kind_min PySem.F.plain_min PySem.F.entry_min (args_d _ _) ?_
  show wpAny _ A.in1 (Builtin.Builtins.bindParams "min" ["key", "default"] 0 ⟨[], kwD d⟩ >>= _) _ _ s
  refine wpAny_bind (wpAny_of_eq (show Builtin.Builtins.bindParams "min" ["key", "default"] 0 ⟨[], kwD d⟩ = pure [none, some d] from rfl) ?_)
  refine wpAny_bind (wpAny_pure ?_)
  refine wpAny_bind (iter_intList hl fun u eu st hfp hlI => ?_)
  subst eu
  refine wpAny_bind (wpAny_newObj_type ?_)
  rw [nameL]
  refine wpAny_pure ⟨plainId_quiet PySem.F.plain_min_loop _, firstD (Walks.list (A := A.in1) hh _ l hlI (intItems xs)) _ (CmpOf.ints_lt (numAt xs) (fun _ _ => intItems_at)) (fun hm => Nat.lt_irrefl _ (hfp _ hm)) ?_ (Heap.get?_push_size _ rfl) fun v g tk p1 p2 keep => ?_⟩
  · exact (Walks.list (prog := prog) (w := w) (A := A.in1) hh _ l hlI (intItems xs)).frame _ _ _ st fun b _ o e => Heap.get?_push_of_some _ e
  · have hsz : (intItems xs).size = xs.size := by simp [intItems]
    refine h v g tk (fun z => by have := p1 (by rw [hsz]; exact z); rw [hsz] at this; exact this) (fun z => p2 (by rw [hsz]; exact z)) (old_kept (l := l) fun b o hb e => ?_)
    exact keep b o hb (Nat.ne_of_lt (Heap.lt_size e)) (Heap.get?_push_of_some _ e)
end
theorem rawD {prog : Program} {w : World} {A : Around} {E : Value → Shared → Prop} {s : Shared} {l : Addr} {its : List Value} {ns : List Int} {z : Int} {t : Tok} {Q : Value → Shared → Prop} (hh : A.handled = none) (hl : s.heap.IsList l its.toArray) (hi : IntsAre its ns)
    (h : ∀ (g : Heap) (tk : Nat) (m : Int) (t' : Tok), (∀ b o, s.heap.get? b = some o → g.get? b = some o) → (ns = [] → m = z) → (ns ≠ [] → m ∈ ns ∧ ∀ y ∈ ns, m ≤ y) → Q (.int m t') { s with heap := g, toks := tk }) :
    wpAny (model prog w) A (call (.builtin "min") [.ref l] (kwD (.int z t))) Q E s := by
  obtain ⟨xs, e⟩ := hi.allInts.items
  have hn : numsOf (intItems xs).toList = ns := by rw [← e]; exact hi.numsOf
  rw [PySem.nums_intItems] at hn
  subst hn
  rw [e] at hl
  refine callD hh hl fun v g tk p1 p2 keep => ?_
  by_cases c : 0 < xs.size
  · obtain ⟨u, rfl⟩ := intItems_at (p1 c)
    obtain ⟨a1, a2⟩ := argBest_lt (numAt xs) (xs.size - 1)
    refine h g tk _ u keep (fun z => ?_) fun _ => ⟨?_, fun y hy => ?_⟩
    · have q : xs.size = 0 := by simpa using congrArg List.length z
      omega
    · rw [PySem.numAt_eq]
      refine PySem.getD_mem ?_
      rw [List.length_map, Array.length_toList]
      exact Nat.lt_of_le_of_lt a1 (by omega)
    · obtain ⟨j, hj, rfl⟩ := PySem.mem_getD hy
      rw [List.length_map, Array.length_toList] at hj
      rw [← PySem.numAt_eq]
      exact a2 j (by omega)
  · rw [p2 (by omega)]
    refine h g tk z t keep (fun _ => rfl) fun q => absurd ?_ q
    have : xs = #[] := Array.eq_empty_of_size_eq_zero (by omega)
    rw [this]
    rfl
end MinD
namespace Bx
open PySem PySem.Spec PyProof.Rows L2
def rMinD (K : PySem.W.Frag) : List V → List V → Hp → VK → Prop := fun xs zs H Q => ∃ (a : Addr) (ns : List Int) (z : Int), xs = [.ref a] ∧ zs = [.int z] ∧ SqL K H a (ns.map V.int) ∧
  ∀ m, (ns = [] → m = z) → (ns ≠ [] → m ∈ ns ∧ ∀ y ∈ ns, m ≤ y) → Q (.int m) H
theorem call_minD {X : Cx} {K : PySem.W.Frag} (h : X.K = K) (hc : X.calm = true) : CallRK X (.builtin "min") ["default"] (rMinD K) := by
  subst h
  intro pins s σ H xs zs us ws Q I r r2 hw
  obtain ⟨a, ns, z, rfl, rfl, hs, q⟩ := hw
  obtain ⟨its, rv, hl, _⟩ := I.list hs
  rw [Vals.ref1 r]
  obtain ⟨u, rfl, ru⟩ := vals1 r2
  obtain ⟨t, rfl⟩ := ru
  exact MinD.rawD (I.ok.hd hc) hl.isList rv.ints fun g tk m t' hk h1 h2 => ⟨.int m, H, I.kept hk, ⟨_, rfl⟩, q m h1 h2⟩
end Bx
namespace Bx
open PySem PySem.Spec PyProof.Rows L2
/-! ### rules over the written part by its name -/
section
variable {X : Cx} {K : PySem.W.Frag}
theorem ix_tupK (h : X.K = K) : IxR X (rIxT K) := h ▸ ix_tup
theorem ix_listK (h : X.K = K) : IxR X (rIxL K) := h ▸ ix_list
theorem ix_seqK (h : X.K = K) : IxR X (rIx K) := h ▸ ix_seq
def rLen (K : PySem.W.Frag) : List V → Hp → VK → Prop := fun xs H Q => ∃ (p : Addr) (ys : List V), xs = [.ref p] ∧ (SqL K H p ys ∨ SqT K H p ys) ∧ Q (.int ys.length) H
theorem call_lenK (h : X.K = K) : CallR X (.builtin "len") (rLen K) := by
  subst h
  exact call_len_seq
def rTupOf (K : PySem.W.Frag) : List V → Hp → VK → Prop := fun xs H Q => ∃ (p : Addr) (ys : List V), xs = [.ref p] ∧ ((SqL K H p ys ∧ ∀ l, H l = none → Q (.ref l) (upd H l (.tup ys))) ∨ (SqT K H p ys ∧ Q (.ref p) H))
theorem call_tuple_ofK (h : X.K = K) : CallR X (.type "tuple") (rTupOf K) := by
  subst h
  exact call_tuple_of
def rLstOf (K : PySem.W.Frag) : List V → Hp → VK → Prop := fun xs H Q => ∃ (p : Addr) (ys : List V), xs = [.ref p] ∧ (SqL K H p ys ∨ SqT K H p ys) ∧ ∀ l, H l = none → Q (.ref l) (upd H l (.lst ys))
theorem call_list_ofK (h : X.K = K) : CallR X (.type "list") (rLstOf K) := by
  subst h
  exact call_list_of
end
end Bx
/-! ### heaps: what one list at d may lose, all else as it was -/
namespace Bx
open PySem PySem.Spec PyProof.Rows L2
def Kp (d : Addr) (H H' : Hp) : Prop := ∀ b o, b ≠ d → H b = some o → H' b = some o
theorem Kp.refl (d : Addr) (H : Hp) : Kp d H H := fun _ _ _ h => h
theorem Kp.trans {d : Addr} {H H1 H2 : Hp} (a : Kp d H H1) (b : Kp d H1 H2) : Kp d H H2 := fun c o n h => b c o n (a c o n h)
theorem Same.kp {d : Addr} {H H' : Hp} (s : Same H H') : Kp d H H' := fun b o _ h => s b o h
theorem Kp.own {d : Addr} {H : Hp} {o : HO} : Kp d H (upd H d o) := fun b _ n h => by rw [upd_ne n]; exact h
theorem same_new {H : Hp} {p : Addr} {o : HO} (h : H p = none) : Same H (upd H p o) := fun b x e => by
  rw [upd_ne (ne_of_none e h)]
  exact e
theorem Kp.new {d p : Addr} {H : Hp} {o : HO} (h : H p = none) : Kp d H (upd H p o) := Same.kp (same_new h)
theorem upd_self {H : Hp} {d : Addr} {o : HO} (h : H d = some o) : upd H d o = H := by
  funext b
  by_cases e : b = d
  · rw [e, upd_same, h]
  · rw [upd_ne e]
/-- a list of ints at d -/
def Ints (H : Hp) (d : Addr) (xs : List Int) : Prop := H d = some (.lst (xs.map V.int))
/-- the draws: some list of ints -/
def Drw (H : Hp) (d : Addr) : Prop := ∃ ds : List Int, H d = some (.lst (ds.map V.int))
theorem Drw.new {H : Hp} {d p : Addr} {o : HO} (h : Drw H d) (n : H p = none) : Drw (upd H p o) d := by
  obtain ⟨ds, e⟩ := h
  exact ⟨ds, same_new n _ _ e⟩
theorem Drw.own {H : Hp} {d : Addr} {ds : List Int} : Drw (upd H d (.lst (ds.map V.int))) d := ⟨ds, upd_same⟩
theorem Drw.same {H H' : Hp} {d : Addr} (h : Drw H d) (s : Same H H') : Drw H' d := by
  obtain ⟨ds, e⟩ := h
  exact ⟨ds, s _ _ e⟩
/-- a tuple of ints -/
def TupI (H : Hp) (a : Addr) (xs : List Int) : Prop := H a = some (.tup (xs.map V.int))
theorem Drw.ne_tup {H : Hp} {d a : Addr} {xs : List V} (h : Drw H d) (e : H a = some (.tup xs)) : a ≠ d := by
  obtain ⟨ds, e2⟩ := h
  exact ne_of e e2 (by intro z; cases z)
/-- a lasso: a pair of tuples of ints -/
def Las (H : Hp) (p : Addr) (h l : List Int) : Prop := ∃ a b, H p = some (.tup [.ref a, .ref b]) ∧ H a = some (.tup (h.map V.int)) ∧ H b = some (.tup (l.map V.int))
theorem Las.keep {H H' : Hp} {d p : Addr} {h l : List Int} (k : Kp d H H') (w : Drw H d) (x : Las H p h l) : Las H' p h l := by
  obtain ⟨a, b, e1, e2, e3⟩ := x
  exact ⟨a, b, k _ _ (w.ne_tup e1) e1, k _ _ (w.ne_tup e2) e2, k _ _ (w.ne_tup e3) e3⟩
theorem Las.same {H H' : Hp} {p : Addr} {h l : List Int} (k : Same H H') (x : Las H p h l) : Las H' p h l := by
  obtain ⟨a, b, e1, e2, e3⟩ := x
  exact ⟨a, b, k _ _ e1, k _ _ e2, k _ _ e3⟩
theorem lenI {xs : List Int} (h : xs.length ≤ 1000000) : (xs.map V.int).length < sizeLine := by
  rw [List.length_map]
  exact Nat.lt_of_le_of_lt h (by decide)
theorem ixN_at {n j : Nat} (h : j < n) : ixN n (j : Int) = some j := by
  unfold ixN
  rw [if_pos (by omega), if_pos (by omega)]
  rfl
theorem set_mapI {xs : List Int} {j : Nat} {v : Int} : (xs.map V.int).set j (.int v) = (xs.set j v).map V.int := by rw [List.map_set]
/-- a list or a tuple of ints -/
def SeqI (H : Hp) (a : Addr) (xs : List Int) : Prop := H a = some (.lst (xs.map V.int)) ∨ H a = some (.tup (xs.map V.int))
theorem SeqI.sq {K : PySem.W.Frag} {H : Hp} {a : Addr} {xs : List Int} (h : SeqI H a xs) : SqL K H a (xs.map V.int) ∨ SqT K H a (xs.map V.int) := by
  rcases h with h | h
  · exact .inl (.of h)
  · exact .inr (.of h)
theorem SeqI.same {H H' : Hp} {a : Addr} {xs : List Int} (k : Same H H') (h : SeqI H a xs) : SeqI H' a xs := by
  rcases h with h | h
  · exact .inl (k _ _ h)
  · exact .inr (k _ _ h)
/-- a pair of lists or tuples of ints -/
def Pr (H : Hp) (p : Addr) (h l : List Int) : Prop := ∃ a b, H p = some (.tup [.ref a, .ref b]) ∧ SeqI H a h ∧ SeqI H b l
theorem Las.pr {H : Hp} {p : Addr} {h l : List Int} (x : Las H p h l) : Pr H p h l := by
  obtain ⟨a, b, e1, e2, e3⟩ := x
  exact ⟨a, b, e1, .inr e2, .inr e3⟩
theorem Pr.same {H H' : Hp} {p : Addr} {h l : List Int} (k : Same H H') (x : Pr H p h l) : Pr H' p h l := by
  obtain ⟨a, b, e1, e2, e3⟩ := x
  exact ⟨a, b, k _ _ e1, e2.same k, e3.same k⟩
/-- an item -/
theorem ixq {K : PySem.W.Frag} {H : Hp} {a : Addr} {xs : List Int} {i : Int} {j : Nat} {v : V} {Q : VK} (h : SeqI H a xs) (ei : i = (j : Int)) (e : (xs.map V.int)[j]? = some v) (q : Q v H) : rIx K (.ref a) (.int i) H Q := by
  subst ei
  rcases h with h | h
  · exact .inl ⟨_, _, _, _, rfl, rfl, .of h, atI_nat e, q⟩
  · exact .inr (.inl ⟨_, _, _, _, rfl, rfl, .of h, atI_nat e, q⟩)
theorem ixq_last {K : PySem.W.Frag} {H : Hp} {a : Addr} {xs : List Int} {z : Int} {Q : VK} (h : SeqI H a xs) (e : xs.getLast? = some z) (q : Q (.int z) H) : rIx K (.ref a) (.int (-1)) H Q := by
  obtain ⟨ys, rfl⟩ := List.getLast?_eq_some_iff.mp e
  have g : atI ((ys ++ [z]).map V.int) (-1) = some (.int z) := by
    rw [List.map_append]
    exact atI_last _ _
  rcases h with h | h
  · exact .inl ⟨_, _, _, _, rfl, rfl, .of h, g, q⟩
  · exact .inr (.inl ⟨_, _, _, _, rfl, rfl, .of h, g, q⟩)
theorem at_map {xs : List Int} {j : Nat} (h : j < xs.length) : (xs.map V.int)[j]? = some (.int (xs.getD j 0)) := by
  rw [List.getElem?_map, List.getElem?_eq_getElem h, List.getD_eq_getElem?_getD, List.getElem?_eq_getElem h]
  rfl
/-! slices -/
section
variable {X : Cx} {K : PySem.W.Frag}
def rSlQ (K : PySem.W.Frag) : V → Option Int → Option Int → Hp → VK → Prop := fun x lo hi H Q => rSlL K x lo hi H Q ∨ rSlA K x lo hi H Q
theorem sl_seqK (h : X.K = K) : SlR X (rSlQ K) := by
  subst h
  exact sl_list.or sl_tupA
theorem sl_tupK (h : X.K = K) : SlR X (rSlA K) := by
  subst h
  exact sl_tupA
theorem sl_listK (h : X.K = K) : SlR X (rSlL K) := by
  subst h
  exact sl_list
theorem op_catK (h : X.K = K) : OpR X (binaryOp .Add) (rCatA K) := by
  subst h
  exact op_catA
theorem op_repTK (h : X.K = K) : OpR X (binaryOp .Mult) (rRepT K) := by
  subst h
  exact op_repT
theorem op_eqDK (h : X.K = K) (hu : X.A.units + 64 < cLine) : OpR X (compareOp .Eq) (rEqD K) := by
  subst h
  exact op_eqD hu
theorem op_neDK (h : X.K = K) (hu : X.A.units + 64 < cLine) : OpR X (compareOp .NotEq) (rNeD K) := by
  subst h
  exact op_neD hu
theorem call_minK (h : X.K = K) (hc : X.calm = true) : CallR X (.builtin "min") (rMin K) := by
  subst h
  exact cr_min hc
theorem call_isiK' (h : X.K = K) : CallR X (.builtin "isinstance") (rIsi K) := by
  subst h
  exact call_isi
end
theorem cut_map {xs : List Int} {lo hi : Option Int} : cutV (xs.map V.int) lo hi = ((xs.drop (HT.sIx xs.length 0 lo)).take (HT.sIx xs.length xs.length hi - HT.sIx xs.length 0 lo)).map V.int := by
  unfold cutV
  rw [List.length_map, List.map_take, List.map_drop]
/-- a slice of a tuple -/
theorem slt {K : PySem.W.Frag} {H : Hp} {a : Addr} {xs ys : List Int} {lo hi : Option Int} {Q : VK} (h : TupI H a xs) (e : (xs.drop (HT.sIx xs.length 0 lo)).take (HT.sIx xs.length xs.length hi - HT.sIx xs.length 0 lo) = ys)
    (q : ∀ (H' : Hp) (p : Addr), Same H H' → TupI H' p ys → Q (.ref p) H') : rSlA K (.ref a) lo hi H Q := by
  subst e
  refine ⟨a, _, rfl, .of h, fun w => ?_, fun _ p hp => q _ p (same_new hp) ?_⟩
  · refine q H a (Same.refl H) ?_
    rw [List.length_map] at w
    rw [w.1, w.2, List.drop_zero, Nat.sub_zero, List.take_length]
    exact h
  · unfold TupI
    rw [upd_same, cut_map]
/-- a slice of a list or tuple -/
theorem slq {K : PySem.W.Frag} {H : Hp} {a : Addr} {xs ys : List Int} {lo hi : Option Int} {Q : VK} (h : SeqI H a xs) (e : (xs.drop (HT.sIx xs.length 0 lo)).take (HT.sIx xs.length xs.length hi - HT.sIx xs.length 0 lo) = ys)
    (q : ∀ (H' : Hp) (p : Addr), Same H H' → SeqI H' p ys → Q (.ref p) H') : rSlQ K (.ref a) lo hi H Q := by
  rcases h with h | h
  · subst e
    refine .inl ⟨a, _, rfl, .of h, fun p hp => q _ p (same_new hp) (.inl ?_)⟩
    rw [upd_same, cut_map]
  · exact .inr (slt h e fun H' p s t => q H' p s (.inr t))
theorem cut_to (xs : List Int) (n : Nat) : (xs.drop (HT.sIx xs.length 0 none)).take (HT.sIx xs.length xs.length (some (n : Int)) - HT.sIx xs.length 0 none) = xs.take n := by
  rw [HT.sIx_none, HT.sIx_nat, List.drop_zero, Nat.sub_zero]
  rcases Nat.le_total n xs.length with c | c
  · rw [Nat.min_eq_left c]
  · rw [Nat.min_eq_right c, List.take_length, List.take_of_length_le c]
theorem cut_from (xs : List Int) {n : Nat} (hn : n ≤ xs.length) : (xs.drop (HT.sIx xs.length 0 (some (n : Int)))).take (HT.sIx xs.length xs.length none - HT.sIx xs.length 0 (some (n : Int))) = xs.drop n := by
  rw [HT.sIx_none, HT.sIx_nat, Nat.min_eq_left hn]
  exact List.take_of_length_le (by rw [List.length_drop]; exact Nat.le_refl _)
theorem slt_to {K : PySem.W.Frag} {H : Hp} {a : Addr} {xs : List Int} {k : Int} {n : Nat} {Q : VK} (h : TupI H a xs) (ek : k = (n : Int))
    (q : ∀ (H' : Hp) (p : Addr), Same H H' → TupI H' p (xs.take n) → Q (.ref p) H') : rSlA K (.ref a) none (some k) H Q := by
  subst ek
  exact slt h (cut_to xs n) q
theorem slt_from {K : PySem.W.Frag} {H : Hp} {a : Addr} {xs : List Int} {k : Int} {n : Nat} {Q : VK} (h : TupI H a xs) (ek : k = (n : Int)) (hn : n ≤ xs.length)
    (q : ∀ (H' : Hp) (p : Addr), Same H H' → TupI H' p (xs.drop n) → Q (.ref p) H') : rSlA K (.ref a) (some k) none H Q := by
  subst ek
  exact slt h (cut_from xs hn) q
theorem slq_to {K : PySem.W.Frag} {H : Hp} {a : Addr} {xs : List Int} {k : Int} {n : Nat} {Q : VK} (h : SeqI H a xs) (ek : k = (n : Int))
    (q : ∀ (H' : Hp) (p : Addr), Same H H' → SeqI H' p (xs.take n) → Q (.ref p) H') : rSlQ K (.ref a) none (some k) H Q := by
  subst ek
  exact slq h (cut_to xs n) q
theorem slq_mid {K : PySem.W.Frag} {H : Hp} {a : Addr} {xs : List Int} {k k2 : Int} {n m : Nat} {Q : VK} (h : SeqI H a xs) (ek : k = (n : Int)) (ek2 : k2 = (m : Int)) (hn : n ≤ xs.length) (hm : m ≤ xs.length)
    (q : ∀ (H' : Hp) (p : Addr), Same H H' → SeqI H' p ((xs.drop n).take (m - n)) → Q (.ref p) H') : rSlQ K (.ref a) (some k) (some k2) H Q := by
  subst ek
  subst ek2
  refine slq h ?_ q
  rw [HT.sIx_nat, HT.sIx_nat, Nat.min_eq_left hn, Nat.min_eq_left hm]
/-- tuple(x) -/
theorem tupq {K : PySem.W.Frag} {H : Hp} {a : Addr} {xs : List Int} {Q : VK} (h : SeqI H a xs) (q : ∀ (H' : Hp) (p : Addr), Same H H' → TupI H' p xs → Q (.ref p) H') : rTupOf K [.ref a] H Q := by
  rcases h with h | h
  · exact ⟨a, _, rfl, .inl ⟨.of h, fun p hp => q _ p (same_new hp) upd_same⟩⟩
  · exact ⟨a, _, rfl, .inr ⟨.of h, q H a (Same.refl H) h⟩⟩
/-- x + y of tuples -/
theorem catq {K : PySem.W.Frag} {H : Hp} {a b : Addr} {xs ys : List Int} {Q : VK} (h : TupI H a xs) (g : TupI H b ys) (hl : xs.length + ys.length ≤ 1000000) (q : ∀ (H' : Hp) (p : Addr), Same H H' → TupI H' p (xs ++ ys) → Q (.ref p) H') : rCatA K (.ref a) (.ref b) H Q := by
  refine ⟨a, b, _, _, rfl, rfl, .of h, .of g, ?_, fun z => ?_, fun _ z => ?_, fun _ _ p hp => ?_⟩
  · rw [List.length_map, List.length_map]
    exact Nat.le_trans hl (by decide)
  · have e : xs = [] := List.map_eq_nil_iff.mp z
    refine q H b (Same.refl H) ?_
    rw [e]
    exact g
  · have e : ys = [] := List.map_eq_nil_iff.mp z
    refine q H a (Same.refl H) ?_
    rw [e, List.append_nil]
    exact h
  · refine q _ p (same_new hp) ?_
    unfold TupI
    rw [upd_same, List.map_append]
/-- a slice of a list -/
theorem sll_from {K : PySem.W.Frag} {H : Hp} {a : Addr} {xs : List Int} {k : Int} {n : Nat} {Q : VK} (h : H a = some (.lst (xs.map V.int))) (ek : k = (n : Int)) (hn : n ≤ xs.length)
    (q : ∀ p, H p = none → Q (.ref p) (upd H p (.lst ((xs.drop n).map V.int)))) : rSlL K (.ref a) (some k) none H Q := by
  subst ek
  refine ⟨a, _, rfl, .of h, fun p hp => ?_⟩
  rw [cut_map, cut_from xs hn]
  exact q p hp
theorem sll_to {K : PySem.W.Frag} {H : Hp} {a : Addr} {xs : List Int} {k : Int} {n : Nat} {Q : VK} (h : H a = some (.lst (xs.map V.int))) (ek : k = (n : Int))
    (q : ∀ p, H p = none → Q (.ref p) (upd H p (.lst ((xs.take n).map V.int)))) : rSlL K (.ref a) none (some k) H Q := by
  subst ek
  refine ⟨a, _, rfl, .of h, fun p hp => ?_⟩
  rw [cut_map, cut_to xs n]
  exact q p hp
/-! == of data -/
theorem eqvAll_int : ∀ xs ys : List Int, PyData.eqvAll (xs.map PyData.int) (ys.map PyData.int) = decide (xs = ys)
  | [], [] => by simp [PyData.eqvAll]
  | [], y :: ys => by simp [PyData.eqvAll]
  | x :: xs, [] => by simp [PyData.eqvAll]
  | x :: xs, y :: ys => by
    rw [List.map_cons, List.map_cons, PyData.eqvAll, eqvAll_int xs ys, PyData.eqv]
    by_cases c : x = y
    · by_cases d : xs = ys
      · simp [c, d]
      · simp [c, d]
    · simp [c]
theorem eqv_tup (xs ys : List Int) : PyData.eqv (.tuple (xs.map PyData.int)) (.tuple (ys.map PyData.int)) = decide (xs = ys) := by
  rw [PyData.eqv]
  exact eqvAll_int xs ys
theorem eqv_lst (xs ys : List Int) : PyData.eqv (.list (xs.map PyData.int)) (.list (ys.map PyData.int)) = decide (xs = ys) := by
  rw [PyData.eqv]
  exact eqvAll_int xs ys
theorem layAll : ∀ xs : List Int, PyData.canLayAll0 (xs.map PyData.int) = true
  | [] => rfl
  | x :: xs => by
    rw [List.map_cons, PyData.canLayAll0, layAll xs]
    rfl
theorem depAll : ∀ xs : List Int, PyData.depthAll (xs.map PyData.int) = 0
  | [] => by simp [PyData.depthAll]
  | x :: xs => by
    rw [List.map_cons, PyData.depthAll, depAll xs]
    simp [PyData.depth]
theorem shaped_tup (xs : List Int) : SeqAt.shaped (.tuple (xs.map PyData.int)) = true := by
  unfold SeqAt.shaped
  rw [PyData.canLay0, layAll, PyData.depth, depAll]
  rfl
theorem shaped_lst (xs : List Int) : SeqAt.shaped (.list (xs.map PyData.int)) = true := by
  unfold SeqAt.shaped
  rw [PyData.canLay0, layAll, PyData.depth, depAll]
  rfl
theorem dpAll_int {K : PySem.W.Frag} {H : Hp} : ∀ xs : List Int, DpAll K H (xs.map V.int) (xs.map PyData.int)
  | [] => .nil
  | x :: xs => .cons (.int x) (dpAll_int xs)
theorem dp_lst {K : PySem.W.Frag} {H : Hp} {a : Addr} {xs : List Int} (h : H a = some (.lst (xs.map V.int))) : Dp K H (.ref a) (.list (xs.map PyData.int)) := .lst (.of h) (dpAll_int xs)
theorem dp_tup {K : PySem.W.Frag} {H : Hp} {a : Addr} {xs : List Int} (h : TupI H a xs) : Dp K H (.ref a) (.tuple (xs.map PyData.int)) := .tup (.of h) (dpAll_int xs)
theorem ite_ne {x y : Int} {A B : Prop} (h1 : x ≠ y → A) (h2 : x = y → B) : if (!decide (V.int x = V.int y)) = true then A else B := by
  by_cases c : x = y
  · rw [c, decide_eq_true rfl]
    exact iteF (h2 c)
  · rw [decide_eq_false (fun z => c (V.int.inj z))]
    exact iteT (h1 c)
theorem ite_eq {x y : Int} {A B : Prop} (h1 : x = y → A) (h2 : x ≠ y → B) : if decide (V.int x = V.int y) = true then A else B := by
  by_cases c : x = y
  · rw [c, decide_eq_true rfl]
    exact iteT (h1 c)
  · rw [decide_eq_false (fun z => c (V.int.inj z))]
    exact iteF (h2 c)
theorem ite_lt {x y : Int} {A B : Prop} (h1 : x < y → A) (h2 : y ≤ x → B) : if decide (x < y) = true then A else B := by
  by_cases c : x < y
  · rw [decide_eq_true c]
    exact iteT (h1 c)
  · rw [decide_eq_false c]
    exact iteF (h2 (by omega))
/-! ### the letters of a word -/
def wat (h l : List Int) (t : Nat) : Int := if t < h.length then h.getD t 0 else l.getD ((t - h.length) % l.length) 0
theorem wat_head {h l : List Int} {t : Nat} (c : t < h.length) : (h.map V.int)[t]? = some (.int (wat h l t)) := by
  unfold wat
  rw [if_pos c, List.getElem?_map, List.getElem?_eq_getElem c, List.getD_eq_getElem?_getD, List.getElem?_eq_getElem c]
  rfl
theorem wat_loop {h l : List Int} {t : Nat} (c : ¬ t < h.length) (n : l ≠ []) : (l.map V.int)[(t - h.length) % l.length]? = some (.int (wat h l t)) := by
  have hl : 0 < l.length := List.length_pos_iff.mpr n
  have c2 : (t - h.length) % l.length < l.length := Nat.mod_lt _ hl
  unfold wat
  rw [if_neg c, List.getElem?_map, List.getElem?_eq_getElem c2, List.getD_eq_getElem?_getD, List.getElem?_eq_getElem c2]
  rfl
theorem ix_mod {t n m : Nat} (h : n ≤ t) : ((t : Int) - (n : Int)) % (m : Int) = (((t - n) % m : Nat) : Int) := by
  have e : ((t : Int) - (n : Int)) = ((t - n : Nat) : Int) := by omega
  rw [e]
  rfl
/-! ### promises of the helpers -/
def spTake : Sp := fun vs H Q _ => ∃ (d : Addr) (n : Int), vs = [.ref d, .int n] ∧ Drw H d ∧ 0 < n ∧
  ∀ (r : Int) (ds : List Int), 0 ≤ r → r < n → Q (.int r) (upd H d (.lst (ds.map V.int)))
def spDraws (K : PySem.W.Frag) : Sp := fun vs H Q _ => ∃ (a : Addr) (ns : List Int) (c : Nat), vs = [.ref a, .int c] ∧ SqL K H a (ns.map V.int) ∧ c ≤ 1000 ∧
  ∀ (H' : Hp) (d : Addr), Same H H' → H d = none → Drw H' d → Q (.ref d) H'
def spAt : Sp := fun vs H Q _ => ∃ (p : Addr) (h l : List Int) (t : Nat), vs = [.ref p, .int t] ∧ Pr H p h l ∧ l ≠ [] ∧ Q (.int (wat h l t)) H
def spLasso : Sp := fun vs H Q _ => ∃ (d : Addr) (n : Int) (m : Nat), vs = [.ref d, .int n, .int m] ∧ Drw H d ∧ 0 < n ∧ 0 < m ∧ m ≤ 1000 ∧
  ∀ (H' : Hp) (p : Addr) (h l : List Int), Kp d H H' → Drw H' d → Las H' p h l → h.length ≤ m → l ≠ [] → l.length ≤ m → (∀ x ∈ h, 0 ≤ x ∧ x < n) → (∀ x ∈ l, 0 ≤ x ∧ x < n) → Q (.ref p) H'
/-- v says where f and g first differ below n -/
def IsDiff (f g : Nat → Int) (n : Nat) (v : V) : Prop := (v = .non ∧ ∀ t < n, f t = g t) ∨ ∃ t, t < n ∧ v = .int (t : Nat) ∧ f t ≠ g t ∧ ∀ s < t, f s = g s
theorem IsDiff.uniq {f g : Nat → Int} {n : Nat} {v u : V} (a : IsDiff f g n v) (b : IsDiff f g n u) : v = u := by
  rcases a with ⟨rfl, a⟩ | ⟨t, ht, rfl, a1, a2⟩
  · rcases b with ⟨rfl, b⟩ | ⟨s, hs, rfl, b1, b2⟩
    · rfl
    · exact absurd (a s hs) b1
  · rcases b with ⟨rfl, b⟩ | ⟨s, hs, rfl, b1, b2⟩
    · exact absurd (b t ht) a1
    · rcases Nat.lt_trichotomy t s with c | c | c
      · exact absurd (b2 t c) a1
      · rw [c]
      · exact absurd (a2 s c) b1
theorem IsDiff.swap {f g : Nat → Int} {n : Nat} {v : V} (a : IsDiff f g n v) : IsDiff g f n v := by
  rcases a with ⟨rfl, a⟩ | ⟨t, ht, rfl, a1, a2⟩
  · exact .inl ⟨rfl, fun t h => (a t h).symm⟩
  · exact .inr ⟨t, ht, rfl, a1.symm, fun s h => (a2 s h).symm⟩
def dfn (h1 l1 h2 l2 : List Int) : Nat := max h1.length h2.length + l1.length + l2.length
def spFd : Sp := fun vs H Q _ => ∃ (p q : Addr) (h1 l1 h2 l2 : List Int), vs = [.ref p, .ref q] ∧ Las H p h1 l1 ∧ Las H q h2 l2 ∧ l1 ≠ [] ∧ l2 ≠ [] ∧ dfn h1 l1 h2 l2 ≤ 1000000 ∧
  ∀ v, IsDiff (wat h1 l1) (wat h2 l2) (dfn h1 l1 h2 l2) v → Q v H
theorem max_if (a b : Nat) : (if ((b : Nat) : Int) > (a : Int) then (b : Int) else (a : Int)) = ((max a b : Nat) : Int) := by
  by_cases h : ((b : Nat) : Int) > (a : Int)
  · rw [if_pos h]
    omega
  · rw [if_neg h]
    omega
/-- the letters of a list, by places -/
def lw (l : List Int) : Nat → Int := fun i => l.getD i 0
def spPeriod : Sp := fun vs H Q _ => ∃ (a : Addr) (l : List Int), vs = [.ref a] ∧ SeqI H a l ∧ l ≠ [] ∧ l.length ≤ 1000000 ∧
  ∀ (H' : Hp) (r : Nat), Same H H' → Wd.Least (lw l) l.length r → Q (.int r) H'
/-- the normal form (h', l') of (h, l) -/
structure Short (h l h' l' : List Int) : Prop where
  ne : l' ≠ []
  same : ∀ t, wat h' l' t = wat h l t
  hl : h'.length ≤ h.length
  ll : l'.length ≤ l.length
  last : h' ≠ [] → h'.getLast? ≠ l'.getLast?
  prim : ∀ p, 0 < p → p < l'.length → p ∣ l'.length → ∃ i, i + p < l'.length ∧ lw l' i ≠ lw l' (i + p)
  memH : ∀ x ∈ h', x ∈ h
  memL : ∀ x ∈ l', x ∈ l
/-- the letter of the repeated word at any whole number of turns from where it begins -/
def bk (l : List Int) (r : Nat) (z : Int) : Int := lw l ((z % (r : Int)).toNat)
def rot (l : List Int) (r c : Nat) : List Int := (l.drop c).take (r - c) ++ l.take c
theorem rot_len {l : List Int} {r c : Nat} (hc : c < r) (hr : r ≤ l.length) : (rot l r c).length = r := by
  unfold rot
  rw [List.length_append, List.length_take, List.length_drop, List.length_take]
  omega
theorem lw_get {l : List Int} {i : Nat} (h : i < l.length) : l[i]? = some (lw l i) := by
  unfold lw
  rw [List.getD_eq_getElem?_getD, List.getElem?_eq_getElem h]
  rfl
theorem lw_of {l : List Int} {i : Nat} {x : Int} (h : l[i]? = some x) : lw l i = x := by
  unfold lw
  rw [List.getD_eq_getElem?_getD, h]
  rfl
theorem rot_at {l : List Int} {r c j : Nat} (hc : c < r) (hr : r ≤ l.length) (hj : j < r) : lw (rot l r c) j = lw l ((j + c) % r) := by
  apply lw_of
  unfold rot
  have e1 : ((l.drop c).take (r - c)).length = r - c := by
    rw [List.length_take, List.length_drop]
    omega
  rcases Nat.lt_or_ge j (r - c) with h | h
  · rw [List.getElem?_append_left (by rw [e1]; exact h), List.getElem?_take, if_pos h, List.getElem?_drop, Nat.mod_eq_of_lt (by omega), Nat.add_comm c j]
    exact lw_get (by omega)
  · rw [List.getElem?_append_right (by rw [e1]; exact h), e1, List.getElem?_take, if_pos (by omega)]
    have e2 : (j + c) % r = j - (r - c) := by
      rw [Nat.mod_eq_sub_mod (by omega), Nat.mod_eq_of_lt (by omega)]
      omega
    rw [e2]
    exact lw_get (by omega)
theorem bk_shift {l : List Int} {r : Nat} {a b z : Int} (h : a = b + r * z) : bk l r a = bk l r b := by
  unfold bk
  rw [h, Int.add_mul_emod_self_left]
theorem bk_nat {l : List Int} {r t : Nat} : bk l r (t : Int) = lw l (t % r) := rfl
theorem least_le {w : Nat → Int} {n r : Nat} (hn : 0 < n) (L : Wd.Least w n r) : r ≤ n := Nat.le_of_dvd hn L.dvd
/-- the letters of l repeated, by the least repetition -/
theorem cyc_least {l : List Int} {r : Nat} (hn : 0 < l.length) (L : Wd.Least (lw l) l.length r) (i : Nat) : lw l (i % l.length) = bk l r (i : Int) := by
  have h1 : Wd.cyc (lw l) l.length i = Wd.cyc (lw l) l.length (i % r) := L.rp.mod
  have h2 : Wd.cyc (lw l) l.length (i % r) = lw l (i % r) := Wd.cyc_lt (Nat.lt_of_lt_of_le (Nat.mod_lt _ L.pos) (least_le hn L))
  rw [bk_nat, ← h2, ← h1]
  rfl
theorem cut_lt {r : Nat} (hr : 0 < r) (z : Int) : (z % (r : Int)).toNat < r := by
  have h1 := Int.emod_nonneg z (show (r : Int) ≠ 0 by omega)
  have h2 := Int.emod_lt_of_pos z (show (0 : Int) < (r : Int) by omega)
  omega
theorem cut_int {r : Nat} (hr : 0 < r) (z : Int) : (((z % (r : Int)).toNat : Nat) : Int) = z - r * (z / r) := by
  have h1 := Int.emod_nonneg z (show (r : Int) ≠ 0 by omega)
  rw [Int.toNat_of_nonneg h1, Int.emod_def]
theorem rot_bk {l : List Int} {r : Nat} (hr0 : 0 < r) (hr : r ≤ l.length) (z : Int) (j : Nat) : lw (rot l r (z % (r : Int)).toNat) (j % r) = bk l r ((j : Int) + z) := by
  rw [rot_at (cut_lt hr0 z) hr (Nat.mod_lt _ hr0), Nat.mod_add_mod]
  have h : bk l r (((j + (z % (r : Int)).toNat : Nat)) : Int) = bk l r ((j : Int) + z) := bk_shift (z := -(z / r)) (by
    rw [Int.natCast_add, cut_int hr0, Int.mul_neg]
    omega)
  rw [← h]
  rfl
theorem short_of {h l : List Int} {r k : Nat} (hne : l ≠ []) (L : Wd.Least (lw l) l.length r) (hk : k ≤ h.length)
    (hB : ∀ t, k ≤ t → t < h.length → lw h t = bk l r ((t : Int) - (h.length : Int))) (hX : k = 0 ∨ lw h (k - 1) ≠ bk l r ((k : Int) - 1 - (h.length : Int))) :
    Short h l (h.take k) (rot l r (((k : Int) - (h.length : Int)) % (r : Int)).toNat) := by
  have hn : 0 < l.length := List.length_pos_iff.mpr hne
  have hr0 := L.pos
  have hr := least_le hn L
  have hlen := rot_len (cut_lt hr0 ((k : Int) - (h.length : Int))) hr
  have htk : (h.take k).length = k := by
    rw [List.length_take]
    omega
  refine ⟨fun z => ?_, fun t => ?_, by rw [htk]; exact hk, by rw [hlen]; exact hr, fun hh => ?_, fun p hp hpl hpd => ?_, fun x hx => List.mem_of_mem_take hx, fun x hx => ?_⟩
  · rw [z] at hlen
    have : (0 : Nat) = r := hlen
    omega
  · unfold wat
    rw [htk, hlen]
    by_cases c : t < k
    · rw [if_pos c, if_pos (by omega), List.getD_eq_getElem?_getD, List.getD_eq_getElem?_getD, List.getElem?_take, if_pos c]
    · rw [if_neg c]
      have e1 := rot_bk (l := l) hr0 hr ((k : Int) - (h.length : Int)) (t - k)
      have e2 : ((t - k : Nat) : Int) + ((k : Int) - (h.length : Int)) = (t : Int) - (h.length : Int) := by omega
      rw [e2] at e1
      show lw _ _ = _
      rw [e1]
      by_cases d : t < h.length
      · rw [if_pos d]
        exact (hB t (by omega) d).symm
      · rw [if_neg d]
        have e3 : (t : Int) - (h.length : Int) = ((t - h.length : Nat) : Int) := by omega
        rw [e3]
        exact (cyc_least hn L _).symm
  · have hk0 : k ≠ 0 := fun z => hh (by rw [z]; rfl)
    rcases hX with z | z
    · exact absurd z hk0
    · rw [List.getLast?_eq_getElem?, List.getLast?_eq_getElem?, htk, hlen]
      rw [List.getElem?_take, if_pos (by omega), lw_get (show k - 1 < h.length by omega), lw_get (show r - 1 < (rot l r _).length by rw [hlen]; omega)]
      intro q
      refine z ?_
      rw [Option.some.inj q]
      have e1 := rot_bk (l := l) hr0 hr ((k : Int) - (h.length : Int)) (r - 1)
      rw [Nat.mod_eq_of_lt (show r - 1 < r by omega)] at e1
      rw [e1]
      exact bk_shift (z := 1) (by omega)
  · rw [hlen] at hpl hpd ⊢
    apply Classical.byContradiction
    intro hno
    have hall : ∀ i, i + p < r → lw (rot l r (((k : Int) - (h.length : Int)) % (r : Int)).toNat) i = lw (rot l r (((k : Int) - (h.length : Int)) % (r : Int)).toNat) (i + p) := fun i hi =>
      Classical.byContradiction fun q => hno ⟨i, hi, q⟩
    have hrp := Wd.rp_of hp hpd hr0 hall
    have key : ∀ i, Wd.cyc (lw l) l.length i = Wd.cyc (lw (rot l r (((k : Int) - (h.length : Int)) % (r : Int)).toNat)) r (i + (r - (((k : Int) - (h.length : Int)) % (r : Int)).toNat)) := by
      intro i
      have hc := cut_lt hr0 ((k : Int) - (h.length : Int))
      have a1 : Wd.cyc (lw l) l.length i = bk l r (i : Int) := cyc_least hn L i
      have a2 := rot_at hc hr (Nat.mod_lt (i + (r - (((k : Int) - (h.length : Int)) % (r : Int)).toNat)) hr0)
      rw [a1]
      show _ = lw _ (_ % r)
      rw [a2, Nat.mod_add_mod, show i + (r - (((k : Int) - (h.length : Int)) % (r : Int)).toNat) + (((k : Int) - (h.length : Int)) % (r : Int)).toNat = i + r by omega, Nat.add_mod_right]
      rfl
    have hR : Wd.Rp (lw l) l.length p := fun i => by
      rw [key, key, Nat.add_right_comm]
      exact hrp _
    have := L.min p hp (Nat.dvd_trans hpd L.dvd) hR
    omega
  · unfold rot at hx
    rcases List.mem_append.mp hx with z | z
    · exact List.mem_of_mem_drop (List.mem_of_mem_take z)
    · exact List.mem_of_mem_take z
theorem rp_mod {w : Nat → Int} {n p q : Nat} (hp : Wd.Rp w n p) (hq : Wd.Rp w n q) : Wd.Rp w n (q % p) := fun i => by
  have a := hp.mul (q / p) (i + q % p)
  rw [Nat.mul_comm, Nat.add_assoc, Nat.mod_add_div] at a
  rw [← a]
  exact hq i
theorem rp_gcd {w : Nat → Int} {n : Nat} (p q : Nat) : Wd.Rp w n p → Wd.Rp w n q → Wd.Rp w n (Nat.gcd p q) := by
  induction p, q using Nat.gcd.induction with
  | H0 q => intro _ hq; rw [Nat.gcd_zero_left]; exact hq
  | H1 p q hp ih => intro h1 h2; rw [Nat.gcd_rec]; exact ih (rp_mod h1 h2) h1
/-- the normal form -/
structure Nrm (h l : List Int) : Prop where
  ne : l ≠ []
  last : h ≠ [] → h.getLast? ≠ l.getLast?
  prim : ∀ p, 0 < p → p < l.length → p ∣ l.length → ∃ i, i + p < l.length ∧ lw l i ≠ lw l (i + p)
theorem Short.nrm {h l h' l' : List Int} (s : Short h l h' l') : Nrm h' l' := ⟨s.ne, s.last, s.prim⟩
theorem Nrm.pos {h l : List Int} (N : Nrm h l) : 0 < l.length := List.length_pos_iff.mpr N.ne
theorem wat_cyc {h l : List Int} {t : Nat} (c : h.length ≤ t) : wat h l t = Wd.cyc (lw l) l.length (t - h.length) := by
  unfold wat
  rw [if_neg (by omega)]
  rfl
/-- every period that the word has from some turn on is a multiple of the loop's length -/
theorem Nrm.dvd {h l : List Int} (N : Nrm h l) {p M : Nat} (hP : ∀ t, M ≤ t → wat h l (t + p) = wat h l t) : l.length ∣ p := by
  have hr := N.pos
  have hRp : Wd.Rp (lw l) l.length p := fun i => by
    have self := Wd.rp_self (lw l) l.length
    have e1 := self.mul M i
    have e2 := self.mul M (i + p)
    have hM : M ≤ M * l.length := Nat.le_mul_of_pos_right M hr
    have q := hP (h.length + (i + M * l.length)) (by omega)
    rw [wat_cyc (by omega), wat_cyc (by omega)] at q
    rw [show h.length + (i + M * l.length) + p - h.length = i + p + M * l.length by omega, show h.length + (i + M * l.length) - h.length = i + M * l.length by omega, e1, e2] at q
    exact q
  have hg := rp_gcd p l.length hRp (Wd.rp_self (lw l) l.length)
  have gd : Nat.gcd p l.length ∣ l.length := Nat.gcd_dvd_right p l.length
  have gp : 0 < Nat.gcd p l.length := Nat.gcd_pos_of_pos_right p hr
  have gl := Nat.le_of_dvd hr gd
  rcases Nat.lt_or_ge (Nat.gcd p l.length) l.length with c | c
  · obtain ⟨i, hi, hne⟩ := N.prim _ gp c gd
    refine absurd ?_ hne
    have := hg i
    rw [Wd.cyc_lt hi, Wd.cyc_lt (by omega)] at this
    exact this.symm
  · have e : Nat.gcd p l.length = l.length := by omega
    rw [← e]
    exact Nat.gcd_dvd_left p l.length
theorem wat_per {h l : List Int} {t : Nat} (c : h.length ≤ t) : wat h l (t + l.length) = wat h l t := by
  rw [wat_cyc c, wat_cyc (by omega), show t + l.length - h.length = (t - h.length) + l.length by omega]
  exact Wd.rp_self (lw l) l.length _
theorem last_at {l : List Int} (n : l ≠ []) : l.getLast? = some (lw l (l.length - 1)) := by
  have := List.length_pos_iff.mpr n
  rw [List.getLast?_eq_getElem?]
  exact lw_get (by omega)
theorem Nrm.head_le {h l g m : List Int} (N : Nrm h l) (hs : ∀ t, wat h l t = wat g m t) (e : l.length = m.length) : h.length ≤ g.length := by
  rcases Nat.lt_or_ge g.length h.length with c | c
  · exfalso
    have hne : h ≠ [] := List.length_pos_iff.mp (by omega)
    refine N.last hne ?_
    rw [last_at hne, last_at N.ne]
    congr 1
    have hp := N.pos
    have a1 : wat h l (h.length - 1) = lw h (h.length - 1) := by
      unfold wat
      rw [if_pos (by omega)]
      rfl
    have a2 : wat h l (h.length - 1 + l.length) = lw l (l.length - 1) := by
      rw [wat_cyc (by omega), show h.length - 1 + l.length - h.length = l.length - 1 by omega, Wd.cyc_lt (by omega)]
    rw [← a1, ← a2, hs, hs, e]
    exact (wat_per (by omega)).symm
  · exact c
theorem Nrm.uniq {h l g m : List Int} (N : Nrm h l) (M : Nrm g m) (hs : ∀ t, wat h l t = wat g m t) : h = g ∧ l = m := by
  have d1 : l.length ∣ m.length := N.dvd (M := g.length) fun t ht => by
    rw [hs, hs]
    exact wat_per ht
  have d2 : m.length ∣ l.length := M.dvd (M := h.length) fun t ht => by
    rw [← hs, ← hs]
    exact wat_per ht
  have e : l.length = m.length := Nat.dvd_antisymm d1 d2
  have e2 : h.length = g.length := Nat.le_antisymm (N.head_le hs e) (M.head_le (fun t => (hs t).symm) e.symm)
  refine ⟨List.ext_getElem e2 fun i h1 h2 => ?_, List.ext_getElem e fun i h1 h2 => ?_⟩
  · have := hs i
    unfold wat at this
    rw [if_pos h1, if_pos h2, List.getD_eq_getElem?_getD, List.getD_eq_getElem?_getD, List.getElem?_eq_getElem h1, List.getElem?_eq_getElem h2] at this
    exact this
  · have := hs (h.length + i)
    rw [wat_cyc (by omega), wat_cyc (by omega), show h.length + i - h.length = i by omega, show h.length + i - g.length = i by omega, Wd.cyc_lt h1, Wd.cyc_lt h2] at this
    have a1 := lw_get h1
    have a2 := lw_get h2
    rw [List.getElem?_eq_getElem h1] at a1
    rw [List.getElem?_eq_getElem h2] at a2
    rw [Option.some.inj a1, Option.some.inj a2, this]
theorem at_last {l : List Int} (n : l ≠ []) : atI (l.map V.int) (-1) = some (.int (lw l (l.length - 1))) := by
  have hp := List.length_pos_iff.mpr n
  have e : l.map V.int = (l.dropLast.map V.int) ++ [.int (l.getLast n)] := by
    rw [← List.map_singleton, ← List.map_append, List.dropLast_concat_getLast]
  rw [e, atI_last]
  have q := last_at n
  rw [List.getLast?_eq_getLast n] at q
  rw [Option.some.inj q]
/-! repetition of a text -/
theorem flat_at {w : List Int} : ∀ (k i : Nat), i < k * w.length → (List.replicate k w).flatten[i]? = w[i % w.length]?
  | 0, i, h => by
    rw [Nat.zero_mul] at h
    exact absurd h (Nat.not_lt_zero i)
  | k + 1, i, h => by
    rw [List.replicate_succ, List.flatten_cons]
    rcases Nat.lt_or_ge i w.length with c | c
    · rw [List.getElem?_append_left c, Nat.mod_eq_of_lt c]
    · rw [List.getElem?_append_right c, flat_at k (i - w.length) (by rw [Nat.succ_mul] at h; omega), ← Nat.mod_eq_sub_mod c]
theorem flat_per {l : List Int} {p k : Nat} (hp : 0 < p) (hpl : p ≤ l.length) (e : l = (List.replicate k (l.take p)).flatten) (hk : k * p = l.length) : ∀ i, i + p < l.length → lw l i = lw l (i + p) := by
  intro i hi
  have el : (l.take p).length = p := by
    rw [List.length_take]
    omega
  have at_ : ∀ j, j < l.length → l[j]? = (l.take p)[j % p]? := fun j hj => by
    have h0 := flat_at (w := l.take p) k j (by rw [el, hk]; exact hj)
    rw [← e, el] at h0
    exact h0
  have h1 := at_ i (by omega)
  have h2 := at_ (i + p) hi
  rw [Nat.add_mod_right, ← h1, lw_get hi, lw_get (show i < l.length by omega)] at h2
  exact (Option.some.inj h2).symm
def spShort : Sp := fun vs H Q _ => ∃ (a b : Addr) (h l : List Int), vs = [.ref a, .ref b] ∧ SeqI H a h ∧ SeqI H b l ∧ l ≠ [] ∧ h.length ≤ 100000 ∧ l.length ≤ 100000 ∧
  ∀ (H' : Hp) (p : Addr) (h' l' : List Int), Same H H' → Las H' p h' l' → Short h l h' l' → Q (.ref p) H'
/-- what suffix hands back -/
def Suf (h l : List Int) (t : Nat) (h' l' : List Int) : Prop := Nrm h' l' ∧ (∀ i, wat h' l' i = wat h l (t + i)) ∧ h'.length ≤ h.length ∧ l'.length ≤ l.length ∧ (∀ x ∈ h', x ∈ h ∨ x ∈ l) ∧ ∀ x ∈ l', x ∈ l
def spSuffix : Sp := fun vs H Q _ => ∃ (p : Addr) (h l : List Int) (t : Nat), vs = [.ref p, .int t] ∧ Las H p h l ∧ l ≠ [] ∧ h.length ≤ 50000 ∧ l.length ≤ 50000 ∧
  ∀ (H' : Hp) (p' : Addr) (h' l' : List Int), Same H H' → Las H' p' h' l' → Suf h l t h' l' → Q (.ref p') H'
def spMake : Sp := fun vs H Q _ => ∃ (a b : Addr) (h l : List Int), vs = [.ref a, .ref b] ∧ H a = some (.lst (h.map V.int)) ∧ H b = some (.lst (l.map V.int)) ∧ l ≠ [] ∧ h.length ≤ 100000 ∧ l.length ≤ 100000 ∧ (∀ x ∈ h, 0 ≤ x) ∧ (∀ x ∈ l, 0 ≤ x) ∧
  ∀ (H' : Hp) (p : Addr) (h' l' : List Int), Same H H' → Las H' p h' l' → Short h l h' l' → Q (.ref p) H'
theorem suf_drop {h l : List Int} {t : Nat} (c : t < h.length) (i : Nat) : wat (h.drop t) l i = wat h l (t + i) := by
  unfold wat
  rw [List.length_drop]
  by_cases d : t + i < h.length
  · rw [if_pos d, if_pos (by omega), List.getD_eq_getElem?_getD, List.getD_eq_getElem?_getD, List.getElem?_drop]
  · rw [if_neg d, if_neg (by omega), show t + i - h.length = i - (h.length - t) by omega]
theorem suf_turn {h l : List Int} {t : Nat} (hn : l ≠ []) (c : h.length ≤ t) (i : Nat) : wat [] (l.drop ((t - h.length) % l.length) ++ l.take ((t - h.length) % l.length)) i = wat h l (t + i) := by
  have hp : 0 < l.length := List.length_pos_iff.mpr hn
  have hc := Nat.mod_lt (t - h.length) hp
  have e : l.drop ((t - h.length) % l.length) ++ l.take ((t - h.length) % l.length) = rot l l.length ((t - h.length) % l.length) := by
    have e3 : (l.drop ((t - h.length) % l.length)).take (l.length - (t - h.length) % l.length) = l.drop ((t - h.length) % l.length) := List.take_of_length_le (by rw [List.length_drop]; exact Nat.le_refl _)
    unfold rot
    rw [e3]
  rw [e, wat_cyc (Nat.zero_le _), wat_cyc (show h.length ≤ t + i by omega), rot_len hc (Nat.le_refl _)]
  show lw _ (_ % _) = lw _ (_ % _)
  rw [rot_at hc (Nat.le_refl _) (Nat.mod_lt _ hp), Nat.mod_add_mod, Nat.add_mod_mod]
  congr 2
  show i - 0 + _ = _
  omega
def spInts : Sp := fun vs H Q _ => ∃ (a : Addr) (xs : List Int) (lo hi : Int), vs = [.ref a, .int lo, .int hi] ∧ TupI H a xs ∧ (∀ x ∈ xs, lo ≤ x ∧ x < hi) ∧ Q (.bl true) H
def spNormal : Sp := fun vs H Q _ => ∃ (p : Addr) (h l : List Int), vs = [.ref p] ∧ Las H p h l ∧ Nrm h l ∧ l.length ≤ 1000 ∧ ∀ H', Same H H' → Q (.bl true) H'
def spIsLasso : Sp := fun vs H Q _ => ∃ (p : Addr) (h l : List Int) (n : Int), vs = [.ref p, .int n] ∧ Las H p h l ∧ Nrm h l ∧ l.length ≤ 1000 ∧ (∀ x ∈ h, 0 ≤ x ∧ x < n) ∧ (∀ x ∈ l, 0 ≤ x ∧ x < n) ∧ ∀ H', Same H H' → Q (.bl true) H'
/-! the same word in other forms -/
theorem wat_mem {h l : List Int} (n : l ≠ []) (t : Nat) : wat h l t ∈ h ∨ wat h l t ∈ l := by
  have hl : 0 < l.length := List.length_pos_iff.mpr n
  unfold wat
  by_cases c : t < h.length
  · rw [if_pos c, List.getD_eq_getElem?_getD, List.getElem?_eq_getElem c]
    exact .inl (List.getElem_mem c)
  · have c2 := Nat.mod_lt (t - h.length) hl
    rw [if_neg c, List.getD_eq_getElem?_getD, List.getElem?_eq_getElem c2]
    exact .inr (List.getElem_mem c2)
theorem range_getD {f : Nat → Int} {n t : Nat} (c : t < n) : ((List.range n).map f).getD t 0 = f t := by
  rw [List.getD_eq_getElem?_getD, List.getElem?_map, List.getElem?_range c]
  rfl
theorem wat_form {h l : List Int} {m k : Nat} (n : l ≠ []) (hk : 0 < k) (t : Nat) :
    wat ((List.range (h.length + m)).map (wat h l)) ((List.range (k * l.length)).map fun t => wat h l (h.length + m + t)) t = wat h l t := by
  have hl : 0 < l.length := List.length_pos_iff.mpr n
  have hkl : 0 < k * l.length := Nat.mul_pos hk hl
  rw [show wat ((List.range (h.length + m)).map (wat h l)) ((List.range (k * l.length)).map fun t => wat h l (h.length + m + t)) t
      = if t < ((List.range (h.length + m)).map (wat h l)).length then ((List.range (h.length + m)).map (wat h l)).getD t 0 else ((List.range (k * l.length)).map fun t => wat h l (h.length + m + t)).getD ((t - ((List.range (h.length + m)).map (wat h l)).length) % ((List.range (k * l.length)).map fun t => wat h l (h.length + m + t)).length) 0 from rfl]
  rw [List.length_map, List.length_range, List.length_map, List.length_range]
  by_cases c : t < h.length + m
  · rw [if_pos c, range_getD c]
  · rw [if_neg c, range_getD (Nat.mod_lt _ hkl), wat_cyc (by omega), wat_cyc (by omega)]
    show lw l (_ % _) = lw l (_ % _)
    congr 1
    have e1 : h.length + m + (t - (h.length + m)) % (k * l.length) - h.length = m + (t - (h.length + m)) % (k * l.length) := by omega
    have e2 : t - h.length = m + (t - (h.length + m)) := by omega
    rw [e1, e2, ← Nat.add_mod_mod, Nat.mod_mod_of_dvd _ ⟨k, Nat.mul_comm k l.length⟩, Nat.add_mod_mod]
theorem wat_front (f h l : List Int) (i : Nat) : wat (f ++ h) l (f.length + i) = wat h l i := by
  unfold wat
  rw [List.length_append]
  by_cases c : i < h.length
  · rw [if_pos c, if_pos (by omega), List.getD_eq_getElem?_getD, List.getD_eq_getElem?_getD, List.getElem?_append_right (by omega), Nat.add_sub_cancel_left]
  · rw [if_neg c, if_neg (by omega), show f.length + i - (f.length + h.length) = i - h.length by omega]
def dLas (h l : List Int) : PyData := .tuple [.tuple (h.map PyData.int), .tuple (l.map PyData.int)]
theorem dp_las {K : PySem.W.Frag} {H : Hp} {p : Addr} {h l : List Int} (x : Las H p h l) : Dp K H (.ref p) (dLas h l) := by
  obtain ⟨a, b, e1, e2, e3⟩ := x
  exact .tup (.of e1) (.cons (dp_tup e2) (.cons (dp_tup e3) .nil))
theorem shaped_las (h l : List Int) : SeqAt.shaped (dLas h l) = true := by
  unfold SeqAt.shaped dLas
  rw [PyData.canLay0, PyData.canLayAll0, PyData.canLayAll0, PyData.canLayAll0, PyData.canLay0, layAll, PyData.canLay0, layAll, PyData.depth, PyData.depthAll, PyData.depthAll, PyData.depthAll, PyData.depth, depAll, PyData.depth, depAll]
  rfl
theorem eqv_las (h l : List Int) : PyData.eqv (dLas h l) (dLas h l) = true := by
  unfold dLas
  rw [PyData.eqv, PyData.eqvAll, PyData.eqvAll, PyData.eqvAll, eqv_tup, eqv_tup]
  simp
def spCell (K : PySem.W.Frag) : Sp := fun vs H Q _ => ∃ (a : Addr) (ns : List Int) (k : Nat), vs = [.ref a, .int k] ∧ SqL K H a (ns.map V.int) ∧ ∀ v : Int, Q (.int v) H
def spNegX (C : Addr) : Sp := fun vs H _ E => ∃ (p : Addr) (t : Int), vs = [.ref p, .int t] ∧ t < 0 ∧ E (.ref C) none H
def spRefuses : Sp := fun vs H Q _ => ∃ (p : Addr) (t : Int), vs = [.ref p, .int t] ∧ t < 0 ∧ Q (.bl true) H
def spSame : Sp := fun vs H Q _ => ∃ (p q : Addr) (h l h2 l2 : List Int), vs = [.ref p, .ref q] ∧ Pr H p h l ∧ Pr H q h2 l2 ∧ l ≠ [] ∧ l2 ≠ [] ∧ dfn h l h2 l2 ≤ 1000000 ∧ (∀ t, wat h l t = wat h2 l2 t) ∧ Q (.bl true) H
def spMakeX (cE cL : Addr) : Sp := fun vs H Q E => ∃ (a b : Addr) (h l : List Int), vs = [.ref a, .ref b] ∧ H a = some (.lst (h.map V.int)) ∧ H b = some (.lst (l.map V.int)) ∧ h.length ≤ 100000 ∧ l.length ≤ 100000 ∧
  (l = [] → E (.ref cE) none H) ∧ (l ≠ [] → (∃ x, (x ∈ h ∨ x ∈ l) ∧ x < 0) → E (.ref cL) none H) ∧
  (l ≠ [] → (∀ x, x ∈ h ∨ x ∈ l → 0 ≤ x) → ∀ (H' : Hp) (p : Addr) (h' l' : List Int), Same H H' → Las H' p h' l' → Short h l h' l' → Q (.ref p) H')
def spOut : Sp := fun vs H Q _ => ∃ (a b : Addr) (h l : List Int), vs = [.ref a, .ref b] ∧ H a = some (.lst (h.map V.int)) ∧ H b = some (.lst (l.map V.int)) ∧ h.length ≤ 100000 ∧ l.length ≤ 100000 ∧
  (l = [] → ∀ (H' : Hp) (p : Addr), Same H H' → H' p = some (.tup [.str "empty", .bl true]) → Q (.ref p) H') ∧
  (l ≠ [] → (∃ x, (x ∈ h ∨ x ∈ l) ∧ x < 0) → ∀ (H' : Hp) (p : Addr), Same H H' → H' p = some (.tup [.str "letter", .bl true]) → Q (.ref p) H') ∧
  (l ≠ [] → (∀ x, x ∈ h ∨ x ∈ l → 0 ≤ x) → ∀ (H' : Hp) (p q : Addr) (h' l' : List Int), Same H H' → H' p = some (.tup [.str "lasso", .ref q]) → Las H' q h' l' → Short h l h' l' → Q (.ref p) H')
theorem neg_cases (h l : List Int) : (∃ x, (x ∈ h ∨ x ∈ l) ∧ x < 0) ∨ ∀ x, x ∈ h ∨ x ∈ l → 0 ≤ x := by
  by_cases c : ∃ x, (x ∈ h ∨ x ∈ l) ∧ x < 0
  · exact .inl c
  · exact .inr fun x hx => by
      rcases Int.lt_or_le x 0 with z | z
      · exact absurd ⟨x, hx, z⟩ c
      · exact z
def spIsInt : Sp := fun vs H Q _ => ∃ (i : Int), vs = [.int i] ∧ Q (.bl true) H
end Bx
/-! ### own errors, two levels below ValueError -/
namespace Bx
open PySem PySem.Spec PyProof.Rows L2
abbrev veB : List Value := [.type "ValueError", .type "Exception", .type "BaseException", .type "object"]
structure ErrC (K : PySem.W.Frag) (mg : Str → Option Value) (x : Str) (C : Addr) : Prop where
  g : mg x = some (.ref C)
  ex : PySem.W.excIn K C veB "ValueError.__new__" = true
  kp : PySem.W.keepIn K (.ref C) = true
  ty : PySem.W.typeIn K (.ref C) = some (.type "type")
  sf : PySem.W.subIn K (.ref C) (.ref C) = some true
  ec : ExcC K C
theorem ErrC.exm {K : PySem.W.Frag} {mg : Str → Option Value} {x : Str} {C : Addr} {cls : Value} {b : Bool} (e : ErrC K mg x C) (h : PySem.W.subIn K cls (.ref C) = some b) : PySem.W.exmOne K cls (.ref C) = some b := PySem.W.exm_ref e.ec.hs e.ec.hd e.ty h
theorem ErrC.me {K : PySem.W.Frag} {mg : Str → Option Value} {x : Str} {C : Addr} (e : ErrC K mg x C) : PySem.W.exmOne K (.ref C) (.ref C) = some true := e.exm e.sf
/-- raise X('..') -/
theorem ErrC.made {X : Cx} {C : Addr} {x m : Str} {j : Nat} {p p2 pos : Pos} (e : ErrC X.K X.mg x C) (hg : Gl X x) (hd : (x == ("__debug__" : Str)) = false := by decide) : PMk X (.Call (.Name x p) [.Constant (.str m) j p2] [] pos) (fun _ H Q => Q (.ref C) none H) :=
  pmk_own PySem.F.excBase_ValueError e.ex e.g e.kp (raises_own e.ec.hs e.ty) hg hd
/-- isinstance(e, c), e the exception that the suite holds -/
def rIsEx (K : PySem.W.Frag) (a : Addr) (cls : Value) (d : Option Addr) : List V → Hp → VK → Prop := fun xs H Q => ∃ D : Addr, cls = .ref D ∧ d = none ∧ ExcC K D ∧ rIsE K D a xs H Q
theorem call_isEx {X : Cx} {K : PySem.W.Frag} {a : Addr} {cls : Value} {d : Option Addr} {oe : Obj} {pn : List (Addr × Obj)} (h : X.K = K) (hz : Zc cls d oe) (hf : ∃ vs, oe.data = .fields vs) : CallR (X.suite a ((a, oe) :: pn)) (.builtin "isinstance") (rIsEx K a cls d) := by
  subst h
  intro pins s σ H xs us Q I r hw
  obtain ⟨D, rfl, rfl, C, hw⟩ := hw
  exact call_isE C hz hf pins s σ H xs us Q I r hw
/-- a def that may raise, by its name -/
structure CalX (P : Program) (w : World) (K : PySem.W.Frag) (mg : Str → Option Value) (base : Heap) (k : Nat) (x : Str) (sp : Sp) : Prop where
  ex : ∃ (f : Addr) (fd : FuncData) (ps : List Str), FnOk P w K mg base (L2.CX P w) k f fd ps sp ∧ mg x = some (.ref f) ∧ PySem.W.keepIn K (.ref f) = true ∧ Binds K fd ps []
theorem pe_cx {X : Cx} {k j : Nat} {x : Str} {sp : Sp} {W : WX} {p pos : Pos} {e : Expr} {es : List Expr} {t : TA} (c : CalX X.prog X.w X.K X.mg X.base k x sp) (hr : Room j X.A) (hk : k ≤ j) (tk : Takes X W) (hg : Gl X x) (ha : PA X (e :: es) t)
    (hdb : (x == ("__debug__" : Str)) = false := by decide) (he : starEach (e :: es) X.env = (false, eval e X.env) :: starEach es X.env := by rfl) (hpl : (backTo pos (starEach es X.env)).any (·.1) = false := by rfl) :
    PE X (.Call (.Name x p) (e :: es) [] pos) (tCallS sp (WE W) t) := by
  obtain ⟨f, fd, ps, F, hm, kp, b⟩ := c.ex
  exact pe_callS F (hr.mono hk) hg hm kp b (fun σ => passAt tk σ) ha hdb he hpl
end Bx
/-! ### several clauses, each with its name: own rule -/
namespace Bx
open PySem PySem.Spec PyProof.Rows L2
/-- what the clauses wish, one after the other: (class, the name's slot, the suite's reading) -/
def wAll (K : PySem.W.Frag) (Wo : WX) (D : Ends) : List (Value × Nat × (Addr → Value → Option Addr → TS)) → WX
  | [] => Wo
  | (c, i, ts) :: r => fun cls d σ H => ∃ b, PySem.W.exmOne K cls c = some b ∧
    (b = true → ∀ a, H a = none → ts a cls d { nx := fun σ' H' => D.nx (σ'.set i none) H', rt := D.rt, bk := fun σ' H' => D.bk (σ'.set i none) H', ct := fun σ' H' => D.ct (σ'.set i none) H' } (σ.set i (some (.ref a))) H) ∧
    (b = false → wAll K Wo D r cls d σ H)
inductive Clauses (Y : Cx) : List ExceptHandler → List (Value × Nat × (Addr → Value → Option Addr → TS)) → Prop
  | nil : Clauses Y [] []
  | cons {x n : Str} {c : Value} {i : Nat} {ts : Addr → Value → Option Addr → TS} {b0 : Stmt} {suite : List Stmt} {p p' : Pos} {cs : List ExceptHandler} {l : List (Value × Nat × (Addr → Value → Option Addr → TS))}
      (hc : Names Y x c) (hi : Y.N[i]? = some n) (hl : Y.env.kindOf n = some .local)
      (su : ∀ (a : Addr) (oe : Obj) (cls : Value) (d : Option Addr) (pn : List (Addr × Obj)), Zc cls d oe → (∃ vs, oe.data = .fields vs) → PSs (Y.suite a ((a, oe) :: pn)) (b0 :: suite) (ts a cls d)) (r : Clauses Y cs l) :
      Clauses Y (.ExceptHandler (some (.Name x p)) (some n) (b0 :: suite) p' :: cs) ((c, i, ts) :: l)
theorem ps_try_all {Y : Cx} {body : List Stmt} {c0 : ExceptHandler} {cs : List ExceptHandler} {l : List (Value × Nat × (Addr → Value → Option Addr → TS))} {pos : Pos} {tb : WX → TS} {Wo : WX}
    (ks : Y.stack = Y.env :: Y.outer) (kf : Y.env.frame = some Y.env.locals) (kN : Y.N.Nodup) (tk : Takes Y Wo)
    (kb : ∀ (W : WX) (pn : List (Addr × Obj)) (xe : Value → Shared → Prop), Takes (Y.tr pn xe) W → PassesOwn (model Y.prog Y.w) Y.A Y.env xe → PSs (Y.tr pn xe) body (tb W))
    (kh : Clauses Y (c0 :: cs) l) : PS Y (.Try body (c0 :: cs) [] [] pos) (fun D σ H => tb (wAll Y.K Wo D l) D σ H) := by
  refine ⟨fun pins u σ H D I hw => ?_⟩
  have okY := I.ok
  have fr := okY.frames
  rw [ks] at fr
  refine wpAny_Try_except ?_
  refine wpAny_mono ((kb (wAll Y.K Wo D l) (Y.pn ++ pins) (fun e u1 => wpAny (model Y.prog Y.w) Y.A (noteFrame e Y.env) (fun _ u2 => wpAny (model Y.prog Y.w) Y.A (setFlight e none) (fun _ u3 =>
    wpAny (model Y.prog Y.w) Y.A (handleBy e Y.env (c0 :: cs)) (SP Y pins D) Y.xe u3) Y.xe u2) Y.xe u1) (fun v g xx => ?_) PassesOwn.looking).run [] u σ H D (I.toTry _) hw) (fun f u1 q => ?_) (fun e u1 q => q)
  · obtain ⟨a, B, sI, pins1, σ1, H1, cls, d, rfl, Jt, nb, up, sk, na, os, ag, w⟩ := xx
    have J : Inv Y pins σ1 H1 sI := Jt.ofTry okY
    have sk1 : Sky B (Y.env :: Y.outer) a (Zc cls d) Y.env.locals g.heap := by rw [← ks]; exact sk
    show wpAny (model Y.prog Y.w) Y.A (noteFrame (.ref a) Y.env) _ _ _
    refine Sky.land Zc.steady fr kf sk1 fun g3 f3 u3 => ?_
    have I3 : Inv Y pins σ1 H1 { g with heap := g3 } := J.landed nb f3.1 (up.trans u3) os ag
    obtain ⟨o3, w3, at3, z3, dt3⟩ := f3.there
    have apart : ∀ {t : Heap} {o : Obj} {vs : Array Value}, t.FunFrames B (Y.env :: Y.outer) → t.get? a = some o → o.data = .fields vs → a ∉ frs (Y.env :: Y.outer) := fun {t o vs} ff e dd hm => by
      obtain ⟨_, o2, e2, q2⟩ := ff.mem hm
      rw [e] at e2
      cases e2
      exact q2 _ dd
    have n0 := apart f3.2.2.1 at3 dt3
    have nL : a ≠ Y.env.locals := fun z => n0 (List.mem_filterMap.mpr ⟨Y.env, List.mem_cons_self, by rw [kf, z]⟩)
    have nF : a ∉ Y.fs := fun hm => by
      obtain ⟨e, he, q⟩ := List.mem_filterMap.mp hm
      exact n0 (List.mem_filterMap.mpr ⟨e, List.mem_cons_of_mem _ he, q⟩)
    have T3 := I3.suite at3 dt3 na nL nF
    have all : ∀ {cs2 : List ExceptHandler} {l2 : List (Value × Nat × (Addr → Value → Option Addr → TS))}, Clauses Y cs2 l2 → wAll Y.K Wo D l2 cls d σ1 H1 →
        wpAny (model Y.prog Y.w) Y.A (handleBy (.ref a) Y.env cs2) (SP Y pins D) Y.xe { g with heap := g3 } := by
      intro cs2 l2 hk
      induction hk with
      | nil =>
        intro w
        refine wpAny_handleBy_nil ?_
        obtain ⟨_, _, _, oe, vs, T, oT, t2, he, hz, hd, h1, _⟩ := id f3
        unfold PySem.passOn
        refine wpAny_bind (wpAny_field he hd h1 ?_)
        rw [if_neg (show ¬ ((Value.ref T == Value.none) = true) from by simp)]
        have away : wpAny (model Y.prog Y.w) Y.A (setFlight (.ref a) Y.env.frame) (fun _ u4 => wpAny (model Y.prog Y.w) Y.A (throw (.ref a) : Sem Flow) (SP Y pins D) Y.xe u4) Y.xe { g with heap := g3 } := by
          rw [kf]
          refine HandSPX.setFlight_upZ f3 fun g4 q4 u4 => wpAny_throw (tk _ _ ?_)
          exact ⟨a, B, sI, pins, σ1, H1, cls, d, rfl, J, nb, (up.trans u3).trans u4, .inr (.inr (by rw [ks]; exact q4)), na, os, ag, w⟩
        first
          | exact wpAny_bind (wpAny_pure (wpAny_bind away))
          | exact wpAny_bind away
      | @cons x n c i ts b0 suite p p' cs3 l3 hc hi hl su r ih =>
        intro w
        obtain ⟨b, e1, yes, no⟩ := w
        refine wpAny_handleBy_cons (codeAny_handlers_test ?_) (by intro q; cases q)
        have LT : PySem.W.Looks (model Y.prog Y.w) g3 (typeOf (.ref a)) cls := fun A Q E s k q => wpAny_typeOf_ref (k _ _ at3) (by rw [z3.1]; exact q)
        have LM := PySem.W.exm_one (M := model Y.prog Y.w) (I3.kIn) LT e1
        have test : ∀ {Q : Value → Shared → Prop} {E : Value → Shared → Prop}, Q c { g with heap := g3 } → wpAny (model Y.prog Y.w) (Y.A.mark (some (.ref a))) (eval (.Name x p) Y.env) Q E { g with heap := g3 } := fun {Q E} q => by
          obtain ⟨hg, hdb, hm | ⟨hm, hv, hnn⟩⟩ := hc
          · exact ld_glob (X := Y.suite a ((a, o3) :: (Y.pn ++ pins))) T3 hg hm q hdb
          · exact ld_blt (X := Y.suite a ((a, o3) :: (Y.pn ++ pins))) T3 hg hm hv q hnn hdb
        refine test (LM.here ?_)
        cases b with
        | true =>
          refine codeAny_handlers_suite_as ?_
          refine HandSPX.lands_againZ f3 fun g4 f4 u4 => ?_
          have I4 : Inv Y pins σ1 H1 { g with heap := g4 } := J.landed nb f4.1 ((up.trans u3).trans u4) os ag
          obtain ⟨o4, w4, at4, z4, dt4⟩ := f4.there
          have T4 := I4.suite at4 dt4 na nL nF
          refine store_ok (X := Y.suite a ((a, o4) :: (Y.pn ++ pins))) (v := .ref a) T4 kN hi (.inl hl) rfl (fun u5 T5 => ?_) (.inr hl)
          refine wpAny_mono ((su a o4 cls d (Y.pn ++ pins) z4 ⟨_, dt4⟩).run [] u5 _ H1 _ T5 (yes rfl a na)) (fun f u6 q => ?_) (fun _ _ z => False.elim z)
          have fin : ∀ {σ6 : L2.St} {H6 : Hp} {Q : Shared → Prop}, Inv (Y.suite a ((a, o4) :: (Y.pn ++ pins))) [] σ6 H6 u6 → (∀ u7, Inv Y pins (σ6.set i none) H6 u7 → Q u7) →
              wpAny (model Y.prog Y.w) Y.A (do bindName Y.env n .none; unbindBehindTheSuite Y.env n p') (fun _ u7 => Q u7) Y.xe u6 := fun {σ6 H6 Q} T6 hq => gone_ok (T6.unsuite okY) kN hi hl hq
          cases f with
          | next =>
            obtain ⟨_, _, T6, q6⟩ := q
            exact fin T6 fun _ I7 => ⟨_, _, I7, q6⟩
          | brk =>
            obtain ⟨_, _, T6, q6⟩ := q
            exact fin T6 fun _ I7 => ⟨_, _, I7, q6⟩
          | cont =>
            obtain ⟨_, _, T6, q6⟩ := q
            exact fin T6 fun _ I7 => ⟨_, _, I7, q6⟩
          | ret v =>
            obtain ⟨_, _, _, T6, r6, q6⟩ := q
            exact fin T6 fun _ I7 => ⟨_, _, _, I7, r6, q6⟩
        | false =>
          show wpAny _ Y.A (handleBy (.ref a) Y.env cs3) _ _ _
          exact ih (no rfl)
    exact all kh w
  · cases f with
    | next =>
      obtain ⟨_, _, J1, q1⟩ := q
      exact wpAny_execs_nil ⟨_, _, J1.ofTry okY, q1⟩
    | brk =>
      obtain ⟨_, _, J1, q1⟩ := q
      exact ⟨_, _, J1.ofTry okY, q1⟩
    | cont =>
      obtain ⟨_, _, J1, q1⟩ := q
      exact ⟨_, _, J1.ofTry okY, q1⟩
    | ret v =>
      obtain ⟨_, _, _, J1, r1, q1⟩ := q
      exact ⟨_, _, _, J1.ofTry okY, r1, q1⟩
end Bx
/-! ### max of a tuple of ints, lcm: own rules -/
namespace MaxT
open PySem PySem.W PyProof.Rows
section
variable {prog : Program} {w : World} {A : Around} {E : Value → Shared → Prop} {s : Shared}
theorem walkT {l : Addr} {xs : Array (Int × Tok)} {Q : Value → Shared → Prop} (hh : A.handled = none) (ht : s.heap.IsTuple l (intItems xs)) (hne : 0 < xs.size)
    (h : ∀ v g tk, (intItems xs)[argBest (fun i j => decide (numAt xs i > numAt xs j)) (xs.size - 1)]? = some v → (∀ b o, s.heap.get? b = some o → g.get? b = some o) → Q v { s with heap := g, toks := tk }) :
    wpAny (model prog w) A (call (.builtin "max") [.ref l]) Q E s := by
  have ll : l < s.heap.objs.size := by
    obtain ⟨_, e, _⟩ := ht
    exact Heap.lt_size e
  refine call_max_walk (wpAny_pyIter_tuple ht ?_)
  refine ⟨_, _, _, _, _, _, _, rfl, Walks.tuple (A := A.in1) hh _ l (Nat.ne_of_lt ll) (intItems xs), ⟨⟨_, Heap.get?_push_size _ rfl, rfl, rfl⟩, ht.push _⟩, fun c hc => ?_, by simpa [intItems] using hne, CmpOf.ints_gt (numAt xs) (fun _ _ => intItems_at), fun v g tk hP hk => ?_⟩
  · show c < (s.heap.push _).objs.size
    rw [Heap.size_push]
    rcases List.mem_cons.mp hc with rfl | hc
    · exact Nat.lt_succ_self _
    · rcases List.mem_cons.mp hc with rfl | hc
      · exact Nat.lt_succ_of_lt ll
      · cases hc
  · refine h v g tk (by simpa [intItems] using hP) fun b o e => hk b o (fun hm => ?_) (Heap.get?_push_of_some _ e)
    have e1 : b = s.heap.objs.size := List.mem_singleton.mp hm
    rw [e1] at e
    exact absurd (Heap.lt_size e) (Nat.lt_irrefl _)
theorem rawT {l : Addr} {its : List Value} {ns : List Int} {Q : Value → Shared → Prop} (hh : A.handled = none) (hl : IsTup s.heap l its.toArray) (hi : IntsAre its ns) (hne : ns ≠ [])
    (h : ∀ (g : Heap) (tk : Nat) (m : Int) (t' : Tok), (∀ b o, s.heap.get? b = some o → g.get? b = some o) → m ∈ ns → (∀ y ∈ ns, y ≤ m) → Q (.int m t') { s with heap := g, toks := tk }) :
    wpAny (model prog w) A (call (.builtin "max") [.ref l]) Q E s := by
  obtain ⟨xs, e⟩ := hi.allInts.items
  have hn : numsOf (intItems xs).toList = ns := by rw [← e]; exact hi.numsOf
  rw [PySem.nums_intItems] at hn
  subst hn
  rw [e] at hl
  have c : 0 < xs.size := by
    rcases Nat.eq_zero_or_pos xs.size with z | z
    · refine absurd ?_ hne
      have : xs = #[] := Array.eq_empty_of_size_eq_zero z
      rw [this]
      rfl
    · exact z
  refine walkT hh hl c fun v g tk p1 keep => ?_
  obtain ⟨u, rfl⟩ := intItems_at p1
  obtain ⟨a1, a2⟩ := argBest_gt (numAt xs) (xs.size - 1)
  refine h g tk _ u keep ?_ fun y hy => ?_
  · rw [PySem.numAt_eq]
    refine PySem.getD_mem ?_
    rw [List.length_map, Array.length_toList]
    exact Nat.lt_of_le_of_lt a1 (by omega)
  · obtain ⟨j, hj, rfl⟩ := PySem.mem_getD hy
    rw [List.length_map, Array.length_toList] at hj
    rw [← PySem.numAt_eq]
    exact a2 j (by omega)
end
end MaxT
namespace Bx
open PySem PySem.Spec PyProof.Rows L2
def rMaxT (K : PySem.W.Frag) : List V → Hp → VK → Prop := fun xs H Q => ∃ (a : Addr) (ns : List Int), xs = [.ref a] ∧ SqT K H a (ns.map V.int) ∧ ns ≠ [] ∧ ∀ m, m ∈ ns → (∀ y ∈ ns, y ≤ m) → Q (.int m) H
theorem call_maxT {X : Cx} {K : PySem.W.Frag} (h : X.K = K) (hc : X.calm = true) : CallR X (.builtin "max") (rMaxT K) := by
  subst h
  intro pins s σ H xs us Q I r hw
  obtain ⟨a, ns, rfl, hs, hne, q⟩ := hw
  obtain ⟨its, rv, ht, _⟩ := I.tuple hs
  rw [Vals.ref1 r]
  exact MaxT.rawT (I.ok.hd hc) ht rv.ints hne fun g tk m t' hk h1 h2 => ⟨.int m, H, I.kept hk, ⟨_, rfl⟩, q m h1 h2⟩
theorem call_maxK {X : Cx} {K : PySem.W.Frag} (h : X.K = K) (hc : X.calm = true) : CallR X (.builtin "max") (rMax K) := by
  subst h
  exact cr_max hc
def spCheckX (cL : Addr) : Sp := fun vs H Q E => ∃ (p : Addr) (h l : List Int) (n : Int), vs = [.ref p, .int n] ∧ Las H p h l ∧ l ≠ [] ∧ h.length ≤ 1000 ∧ l.length ≤ 1000 ∧
  ((∃ x, (x ∈ h ∨ x ∈ l) ∧ n ≤ x) → ∀ H', Same H H' → E (.ref cL) none H') ∧ ((∀ x, x ∈ h ∨ x ∈ l → x < n) → ∀ H', Same H H' → Q .non H')
end Bx
/-! ### lists of lists, instances made in a try: own rules -/
namespace Bx
open PySem PySem.Spec PyProof.Rows L2
section
variable {X : Cx}
theorem pi_or {tg iter : Expr} {w1 w2 : TI} (h1 : PI X tg iter w1) (h2 : PI X tg iter w2) : PI X tg iter (fun σ H R => w1 σ H R ∨ w2 σ H R) := ⟨fun pins s σ H R I h => by
  rcases h with h | h
  · exact h1.run pins s σ H R I h
  · exact h2.run pins s σ H R I h⟩
theorem passF {P : Program} {w : World} : Passes (L2.CX P w) X (fun _ _ _ => False) := fun _ _ _ _ _ _ _ h => by
  obtain ⟨_, _, _, _, _, _, _, _, _, _, _, _, z⟩ := h
  exact z.elim
/-- a new instance of an own class whose __init__ may raise -/
structure MakX (P : Program) (w : World) (K : PySem.W.Frag) (mg : Str → Option Value) (base : Heap) (k : Nat) (x : Str) (C : Addr) (sp : Sp) : Prop where
  ex : ∃ (f : Addr) (fd : FuncData) (ps : List Str), Mk K C f ∧ FnOk P w K mg base (L2.CX P w) k f fd ps sp ∧ mg x = some (.ref C) ∧ Binds K fd ps []
def tMakX (C : Addr) (sp : Sp) (E : L2.St → XK) (t : TA) : TE := fun σ H Q => t σ H fun vs H1 => ∀ x dx, H1 x = none → H1 dx = none → dx ≠ x → sp (.ref x :: vs) (upd (upd H1 dx (.own x)) x (.ins C dx [])) (fun v H2 => v = .non ∧ Q (.ref x) H2) (E σ)
theorem made_at {k : Nat} {f C : Addr} {fd : FuncData} {ps : List Str} {sp : Sp} {E : XK} {pins : List (Addr × Obj)} {σ : L2.St} {H : Hp} {u : Shared} {Q : VK} {us : List Value} {vs : List V} (M : Mk X.K C f) (F : FnOk X.prog X.w X.K X.mg X.base (L2.CX X.prog X.w) k f fd ps sp) (hr : Room (k + 1) X.A) (hb : Binds X.K fd ps [])
    (hx : PassesAt (L2.CX X.prog X.w) X σ E) (I : Inv X pins σ H u) (r : Vals vs us)
    (h : ∀ x dx, H x = none → H dx = none → dx ≠ x → sp (.ref x :: vs) (upd (upd H dx (.own x)) x (.ins C dx [])) (fun v H2 => v = .non ∧ Q (.ref x) H2) E) :
    wpAny (model X.prog X.w) X.A (call (.ref C) us) (EP X pins σ Q) X.xe u := by
  have q0 := h (u.heap.objs.size + 1) u.heap.objs.size (I.hok.fresh (Nat.le_succ _)) (I.hok.fresh (Nat.le_refl _)) (Nat.ne_of_lt (Nat.lt_succ_self _))
  have J := Inv.made (C := C) I
  have r2 : Vals (V.ref (u.heap.objs.size + 1) :: vs) (Value.ref (u.heap.objs.size + 1) :: us) := .cons rfl r
  have hl : (Value.ref (u.heap.objs.size + 1) :: us ++ []).length = ps.length := by
    have e := r2.length
    rw [F.len _ _ _ _ q0] at e
    rw [List.append_nil]
    exact e.symm
  refine wpAny_call (make_map (f := f) I.kIn M.makes M.init (beq_iff_eq.mp M.fn) (codeAny_mono (F.run _ X.stack _ _ ⟨Value.ref (u.heap.objs.size + 1) :: us, []⟩ (Value.ref (u.heap.objs.size + 1) :: us) _ _ E (hr.make C us [])
    (J.env0.make C us []) (by have q := hb _ (Value.ref (u.heap.objs.size + 1) :: us) J.kIn hl; rw [List.append_nil] at q; exact q) r2 q0) fun r u' hq => ?_))
  cases r with
  | error e => exact hx pins _ _ e u' J hq
  | ok fl =>
    cases fl with
    | ret v =>
      obtain ⟨y, G, J3, ry, ey, qy⟩ := J.after hq
      subst ey
      exact ⟨ry, ⟨V.ref (u.heap.objs.size + 1), G, J3, rfl, qy⟩⟩
    | next => exact False.elim hq
    | brk => exact False.elim hq
    | cont => exact False.elim hq
theorem pe_makeX {k j : Nat} {C : Addr} {x : Str} {sp : Sp} {W : WX} {p pos : Pos} {e : Expr} {es : List Expr} {t : TA} (c : MakX X.prog X.w X.K X.mg X.base k x C sp) (hr : Room j X.A) (hk : k + 1 ≤ j) (tk : Takes X W) (hg : Gl X x) (ha : PA X (e :: es) t)
    (hdb : (x == ("__debug__" : Str)) = false := by decide) (he : starEach (e :: es) X.env = (false, eval e X.env) :: starEach es X.env := by rfl) (hpl : (backTo pos (starEach es X.env)).any (·.1) = false := by rfl) :
    PE X (.Call (.Name x p) (e :: es) [] pos) (tMakX C sp (WE W) t) := by
  obtain ⟨f, fd, ps, M, F, hm, b⟩ := c.ex
  refine ⟨fun pins u σ H Q I hw => ?_⟩
  refine wpAny_Call_Name_kw (ld_glob I hg hm ?_ hdb)
  refine PySem.W.callWith_K (h₀ := X.base) I.ok.mod.kin M.kp (thn (ha.run pos pins u σ H _ I hw) fun us u1 ⟨vs, H1, I1, rv, qv⟩ => ⟨I1.kIn, ?_⟩) he hpl
  exact made_at M F (hr.mono hk) b (passAt tk σ) I1 rv qv
theorem pe_makeN {k j : Nat} {C : Addr} {x : Str} {sp : Sp} {p pos : Pos} {e : Expr} {es : List Expr} {t : TA} (c : MakX X.prog X.w X.K X.mg X.base k x C sp) (hr : Room j X.A) (hk : k + 1 ≤ j) (hg : Gl X x) (ha : PA X (e :: es) t)
    (hdb : (x == ("__debug__" : Str)) = false := by decide) (he : starEach (e :: es) X.env = (false, eval e X.env) :: starEach es X.env := by rfl) (hpl : (backTo pos (starEach es X.env)).any (·.1) = false := by rfl) :
    PE X (.Call (.Name x p) (e :: es) [] pos) (tMakX C sp (fun _ => fun _ _ _ => False) t) := by
  obtain ⟨f, fd, ps, M, F, hm, b⟩ := c.ex
  refine ⟨fun pins u σ H Q I hw => ?_⟩
  refine wpAny_Call_Name_kw (ld_glob I hg hm ?_ hdb)
  refine PySem.W.callWith_K (h₀ := X.base) I.ok.mod.kin M.kp (thn (ha.run pos pins u σ H _ I hw) fun us u1 ⟨vs, H1, I1, rv, qv⟩ => ⟨I1.kIn, ?_⟩) he hpl
  exact made_at M F (hr.mono hk) b (fun pins G v e v' J q => passF pins σ G v e v' J q) I1 rv qv
end
/-! rows of ints -/
def RowsA (mk : List V → HO) (H : Hp) : List Addr → List (List Int) → Prop
  | [], [] => True
  | a :: as, r :: rs => H a = some (mk (r.map V.int)) ∧ RowsA mk H as rs
  | _, _ => False
def RowsQ (H : Hp) : List Addr → List (List Int) → Prop
  | [], [] => True
  | a :: as, r :: rs => SeqI H a r ∧ RowsQ H as rs
  | _, _ => False
theorem RowsA.keep {mk : List V → HO} {H H' : Hp} : ∀ {as : List Addr} {rs : List (List Int)}, (∀ b o, b ∈ as → H b = some o → H' b = some o) → RowsA mk H as rs → RowsA mk H' as rs
  | [], [], _, _ => True.intro
  | a :: as, r :: rs, k, h => ⟨k a _ List.mem_cons_self h.1, RowsA.keep (fun b o hb => k b o (List.mem_cons_of_mem _ hb)) h.2⟩
  | [], _ :: _, _, h => h.elim
  | _ :: _, [], _, h => h.elim
theorem RowsA.same {mk : List V → HO} {H H' : Hp} {as : List Addr} {rs : List (List Int)} (k : Same H H') (h : RowsA mk H as rs) : RowsA mk H' as rs := h.keep fun b o _ e => k b o e
theorem RowsA.len {mk : List V → HO} {H : Hp} : ∀ {as : List Addr} {rs : List (List Int)}, RowsA mk H as rs → as.length = rs.length
  | [], [], _ => rfl
  | a :: as, r :: rs, h => congrArg (· + 1) h.2.len
  | [], _ :: _, h => h.elim
  | _ :: _, [], h => h.elim
theorem RowsA.snoc {mk : List V → HO} {H : Hp} {a : Addr} {r : List Int} (ha : H a = some (mk (r.map V.int))) : ∀ {as : List Addr} {rs : List (List Int)}, RowsA mk H as rs → RowsA mk H (as ++ [a]) (rs ++ [r])
  | [], [], _ => ⟨ha, True.intro⟩
  | b :: as, q :: rs, h => ⟨h.1, h.2.snoc ha⟩
  | [], _ :: _, h => h.elim
  | _ :: _, [], h => h.elim
theorem RowsA.get {mk : List V → HO} {H : Hp} : ∀ {as : List Addr} {rs : List (List Int)} {i : Nat} {a : Addr}, RowsA mk H as rs → as[i]? = some a → ∃ r, rs[i]? = some r ∧ H a = some (mk (r.map V.int))
  | [], _, _, _, _, e => by simp at e
  | b :: as, [], _, _, h, _ => h.elim
  | b :: as, q :: rs, 0, a, h, e => by
    have : b = a := Option.some.inj e
    subst this
    exact ⟨q, rfl, h.1⟩
  | b :: as, q :: rs, i + 1, a, h, e => RowsA.get (i := i) h.2 e
theorem RowsA.q1 {H : Hp} : ∀ {as : List Addr} {rs : List (List Int)}, RowsA .lst H as rs → RowsQ H as rs
  | [], [], _ => True.intro
  | a :: as, r :: rs, h => ⟨.inl h.1, h.2.q1⟩
  | [], _ :: _, h => h.elim
  | _ :: _, [], h => h.elim
theorem RowsA.q2 {H : Hp} : ∀ {as : List Addr} {rs : List (List Int)}, RowsA .tup H as rs → RowsQ H as rs
  | [], [], _ => True.intro
  | a :: as, r :: rs, h => ⟨.inr h.1, h.2.q2⟩
  | [], _ :: _, h => h.elim
  | _ :: _, [], h => h.elim
theorem RowsQ.same {H H' : Hp} (k : Same H H') : ∀ {as : List Addr} {rs : List (List Int)}, RowsQ H as rs → RowsQ H' as rs
  | [], [], _ => True.intro
  | a :: as, r :: rs, h => ⟨h.1.same k, h.2.same k⟩
  | [], _ :: _, h => h.elim
  | _ :: _, [], h => h.elim
theorem RowsQ.len {H : Hp} : ∀ {as : List Addr} {rs : List (List Int)}, RowsQ H as rs → as.length = rs.length
  | [], [], _ => rfl
  | a :: as, r :: rs, h => congrArg (· + 1) h.2.len
  | [], _ :: _, h => h.elim
  | _ :: _, [], h => h.elim
theorem RowsQ.get {H : Hp} : ∀ {as : List Addr} {rs : List (List Int)} {i : Nat} {a : Addr}, RowsQ H as rs → as[i]? = some a → ∃ r, rs[i]? = some r ∧ SeqI H a r
  | [], _, _, _, _, e => by simp at e
  | b :: as, [], _, _, h, _ => h.elim
  | b :: as, q :: rs, 0, a, h, e => by
    have : b = a := Option.some.inj e
    subst this
    exact ⟨q, rfl, h.1⟩
  | b :: as, q :: rs, i + 1, a, h, e => RowsQ.get (i := i) h.2 e
/-- a list or a tuple of any values -/
def SeqV (H : Hp) (a : Addr) (xs : List V) : Prop := H a = some (.lst xs) ∨ H a = some (.tup xs)
theorem SeqV.same {H H' : Hp} {a : Addr} {xs : List V} (k : Same H H') (h : SeqV H a xs) : SeqV H' a xs := by
  rcases h with h | h
  · exact .inl (k _ _ h)
  · exact .inr (k _ _ h)
theorem SeqV.sq {K : PySem.W.Frag} {H : Hp} {a : Addr} {xs : List V} (h : SeqV H a xs) : SqL K H a xs ∨ SqT K H a xs := by
  rcases h with h | h
  · exact .inl (.of h)
  · exact .inr (.of h)
def iSeq (K : PySem.W.Frag) (te : TE) : TI := fun σ H R => iList K te σ H R ∨ iTup K te σ H R
theorem pi_listK {X : Cx} {K : PySem.W.Frag} {tg e : Expr} {te : TE} (h : X.K = K) (he : PE X e te) : PI X tg e (iList K te) := by
  subst h
  exact pi_list he
theorem pi_tupK {X : Cx} {K : PySem.W.Frag} {tg e : Expr} {te : TE} (h : X.K = K) (he : PE X e te) : PI X tg e (iTup K te) := by
  subst h
  exact pi_tup he
theorem pi_seq {X : Cx} {K : PySem.W.Frag} {tg e : Expr} {te : TE} (h : X.K = K) (he : PE X e te) : PI X tg e (iSeq K te) := by
  subst h
  exact pi_or (pi_list he) (pi_tup he)
theorem for_seq {K : PySem.W.Frag} {i : Nat} {a : Addr} {xs : List V} {g : TG} {tb : TS} {D : Ends} {σ : L2.St} {H : Hp} (hv : σ[i]? = some (some (.ref a))) (hq : SeqV H a xs) (Pv : Nat → L2.St → Hp → Prop) (h0 : Pv 0 σ H) (hS : ∀ i σ' H', Pv i σ' H' → Same H H')
    (hs : ∀ i x σ H, xs[i]? = some x → Pv i σ H → g x σ H fun σ2 H2 => tb { D with nx := Pv (i + 1), ct := Pv (i + 1), bk := D.nx } σ2 H2) (hd : ∀ σ H, Pv xs.length σ H → D.nx σ H) : tFor (iSeq K (tVar i)) g tb D σ H := by
  rcases hq with h | h
  · exact .inl ⟨_, hv, a, rfl, ⟨_, .of h⟩, for_list Pv h0 (fun i σ' H' _ p => .of (hS i σ' H' p _ _ h)) hs hd⟩
  · exact .inr ⟨_, hv, a, rfl, ⟨_, .of h⟩, for_tup Pv h0 (fun i σ' H' _ p => .of (hS i σ' H' p _ _ h)) hs hd⟩
/-- a list of lists of ints -/
def LL (H : Hp) (r : Addr) (as : List Addr) (rows : List (List Int)) : Prop := H r = some (.lst (as.map V.ref)) ∧ RowsA .lst H as rows
def Vld (L s : Int) (ps : List Int) (rows : List (List Int)) : Prop := 1 ≤ L ∧ rows ≠ [] ∧ ps.length = rows.length ∧ (0 ≤ s ∧ s < (rows.length : Int)) ∧ (∀ r ∈ rows, (r.length : Int) = L ∧ ∀ x ∈ r, 0 ≤ x ∧ x < (rows.length : Int)) ∧ ∀ p ∈ ps, 0 ≤ p
/-- the fields of a parity automaton, as they are stored -/
def pf (L s : Int) (pt rt : Addr) : List (Str × V) := putF "rows" (.ref rt) (putF "priorities" (.ref pt) (putF "start" (.int s) (putF "letters" (.int L) [])))
theorem putF_len (f : Str) (v : V) : ∀ fs : List (Str × V), (putF f v fs).length ≤ fs.length + 1
  | [] => Nat.le_refl _
  | (g, x) :: r => by
    unfold putF
    by_cases c : g = f
    · rw [if_pos c]
      exact Nat.le_succ _
    · rw [if_neg c]
      exact Nat.succ_le_succ (putF_len f v r)
theorem pf_L (L s : Int) (pt rt : Addr) : (pf L s pt rt).lookup ("letters" : Str) = some (.int L) := by
  unfold pf
  rw [lookup_putF, if_neg (by decide +kernel), lookup_putF, if_neg (by decide +kernel), lookup_putF, if_neg (by decide +kernel), lookup_putF, if_pos rfl]
theorem pf_s (L s : Int) (pt rt : Addr) : (pf L s pt rt).lookup ("start" : Str) = some (.int s) := by
  unfold pf
  rw [lookup_putF, if_neg (by decide +kernel), lookup_putF, if_neg (by decide +kernel), lookup_putF, if_pos rfl]
theorem pf_p (L s : Int) (pt rt : Addr) : (pf L s pt rt).lookup ("priorities" : Str) = some (.ref pt) := by
  unfold pf
  rw [lookup_putF, if_neg (by decide +kernel), lookup_putF, if_pos rfl]
theorem pf_r (L s : Int) (pt rt : Addr) : (pf L s pt rt).lookup ("rows" : Str) = some (.ref rt) := by
  unfold pf
  rw [lookup_putF, if_pos rfl]
/-- a parity automaton at x -/
def ParAt (C : Addr) (H : Hp) (x : Addr) (L s : Int) (ps : List Int) (rows : List (List Int)) : Prop := ∃ (dx pt rt : Addr) (as : List Addr), H x = some (.ins C dx (pf L s pt rt)) ∧ TupI H pt ps ∧ H rt = some (.tup (as.map V.ref)) ∧ RowsA .tup H as rows
theorem ParAt.same {C : Addr} {H H' : Hp} {x : Addr} {L s : Int} {ps : List Int} {rows : List (List Int)} (k : Same H H') (h : ParAt C H x L s ps rows) : ParAt C H' x L s ps rows := by
  obtain ⟨dx, pt, rt, as, e1, e2, e3, e4⟩ := h
  exact ⟨dx, pt, rt, as, k _ _ e1, k _ _ e2, k _ _ e3, e4.same k⟩
/-- what the class has -/
structure ParC (K : PySem.W.Frag) (C : Addr) : Prop where
  cl : Cls K C
  nL : NoAttr K C "letters"
  nS : NoAttr K C "start"
  nP : NoAttr K C "priorities"
  nR : NoAttr K C "rows"
def spCheckS (cI : Addr) : Sp := fun vs H Q E => ∃ (z n : Int), vs = [.int z, .int n] ∧ (¬ (0 ≤ z ∧ z < n) → E (.ref cI) none H) ∧ ((0 ≤ z ∧ z < n) → Q .non H)
def spInitP (C cI : Addr) : Sp := fun vs H Q E => ∃ (x p r dx : Addr) (L s : Int) (ps : List Int) (as : List Addr) (rows : List (List Int)), vs = [.ref x, .int L, .int s, .ref p, .ref r] ∧ H x = some (.ins C dx []) ∧ H p = some (.lst (ps.map V.int)) ∧ SeqV H r (as.map V.ref) ∧ RowsQ H as rows ∧
  rows.length ≤ 1000 ∧ ps.length ≤ 1000 ∧ (∀ q ∈ rows, q.length ≤ 1000) ∧ (¬ Vld L s ps rows → E (.ref cI) none H) ∧ (Vld L s ps rows → ∀ H', Kp x H H' → ParAt C H' x L s ps rows → Q .non H')
end Bx
namespace Bx
open PySem PySem.Spec PyProof.Rows L2
theorem lc_seq {K : PySem.W.Frag} {i : Nat} {a : Addr} {xs : List V} {g : TG} {tt : TT} {te : TE} {vs : List Nat} {σ : L2.St} {H : Hp} {Q : VK} (hv : σ[i]? = some (some (.ref a))) (hq : SeqV H a xs) (Pv : Addr → Nat → Hp → Prop) (h0 : ∀ D, H D = none → Pv D 0 (upd H D (.lst [])))
    (hS : ∀ D j H', H D = none → Pv D j H' → Same H H')
    (hs : ∀ D, H D = none → ∀ i x H', xs[i]? = some x → Pv D i H' → g x (wipe σ vs) H' fun σ2 H2 => wipe σ2 vs = wipe σ vs ∧ tt σ2 H2 fun b H3 => if b = true then te σ2 H3 fun y H4 => ∃ acc, H4 D = some (.lst acc) ∧ acc.length < sizeLine ∧ Pv D (i + 1) (upd H4 D (.lst (acc ++ [y]))) else Pv D (i + 1) H3)
    (hd : ∀ D H', H D = none → Pv D xs.length H' → Q (.ref D) H') : tLc (iSeq K (tVar i)) g tt te vs σ H Q := by
  rcases hq with h | h
  · exact .inl ⟨_, hv, a, rfl, ⟨_, .of h⟩, fun D hD => lc_list (Pv D) (h0 D hD) (fun i H' _ p => .of (hS D i H' hD p _ _ h)) (hs D hD) (fun H' p => hd D H' hD p)⟩
  · exact .inr ⟨_, hv, a, rfl, ⟨_, .of h⟩, fun D hD => lc_tup (Pv D) (h0 D hD) (fun i H' _ p => .of (hS D i H' hD p _ _ h)) (hs D hD) (fun H' p => hd D H' hD p)⟩
theorem rowsUpd {H : Hp} {x : Addr} {o : HO} (hx : ∀ ys, H x ≠ some (.tup ys)) : ∀ {as : List Addr} {rs : List (List Int)}, RowsA .tup H as rs → RowsA .tup (upd H x o) as rs
  | [], [], _ => True.intro
  | a :: as, r :: rs, h => ⟨by
      have h1 := h.1
      rw [upd_ne (fun z => by rw [z] at h1; exact hx _ h1)]
      exact h1, rowsUpd hx h.2⟩
  | [], _ :: _, h => h.elim
  | _ :: _, [], h => h.elim
theorem refs_get {as : List Addr} {i : Nat} {v : V} (h : (as.map V.ref)[i]? = some v) : ∃ a, as[i]? = some a ∧ v = .ref a := by
  rw [List.getElem?_map] at h
  cases e : as[i]? with
  | none => rw [e] at h; cases h
  | some z => rw [e] at h; exact ⟨z, rfl, (Option.some.inj h).symm⟩
theorem ints_get {xs : List Int} {i : Nat} {v : V} (h : (xs.map V.int)[i]? = some v) : ∃ x, xs[i]? = some x ∧ v = .int x := by
  rw [List.getElem?_map] at h
  cases e : xs[i]? with
  | none => rw [e] at h; cases h
  | some z => rw [e] at h; exact ⟨z, rfl, (Option.some.inj h).symm⟩
theorem take_get {α : Type} {xs : List α} {i : Nat} {x : α} (h : xs[i]? = some x) : xs.take (i + 1) = xs.take i ++ [x] := by
  rw [List.take_add_one, h]
  rfl
theorem pl_next {f : Str} {v : V} {fs : List (Str × V)} {n : Nat} (h : fs.length ≤ n) : (putF f v fs).length ≤ n + 1 := Nat.le_trans (putF_len f v fs) (Nat.succ_le_succ h)
theorem pl_lt {fs : List (Str × V)} {n : Nat} (h : fs.length ≤ n) (k : n < 1000) : fs.length < 1000 := Nat.lt_of_le_of_lt h k
theorem pl_0 : ([] : List (Str × V)).length ≤ 0 := Nat.le_refl _
theorem fld_def {Kf : PySem.W.Frag} {ta tv : TE} {f : Str} {D : Ends} {σ : L2.St} {H : Hp} (h : tv σ H fun y H1 => ta σ H1 fun x H2 => ∃ a C dx fs, x = .ref a ∧ H2 a = some (.ins C dx fs) ∧ Cls Kf C ∧ NoAttr Kf C f ∧ fs.length < 1000 ∧ D.nx σ (upd H2 a (.ins C dx (putF f y fs)))) : sFld Kf ta tv f D σ H := h
theorem cb1_def {r : List V → Hp → VK → Prop} {te : TE} {σ : L2.St} {H : Hp} {Q : VK} (h : te σ H fun v H1 => r [v] H1 Q) : tCB r (tCons te tNil) σ H Q := h
theorem rows_some {mk : List V → HO} {H : Hp} : ∀ {as : List Addr} {rs : List (List Int)} {a : Addr}, RowsA mk H as rs → a ∈ as → ∃ o, H a = some o
  | [], _, _, _, h => by simp at h
  | b :: as, [], _, h, _ => h.elim
  | b :: as, r :: rs, a, h, m => by
    rcases List.mem_cons.mp m with z | z
    · rw [z]
      exact ⟨_, h.1⟩
    · exact rows_some h.2 z
theorem LL.same {H H' : Hp} {r : Addr} {as : List Addr} {rows : List (List Int)} (k : Same H H') (h : LL H r as rows) : LL H' r as rows := ⟨k _ _ h.1, h.2.same k⟩
def exS (d : Scope) : Expr → Scope
  | .ListComp _ _ s _ => s
  | .Call _ (.ListComp _ _ s _ :: _) _ _ => s
  | _ => d
def stS (d : Scope) (i : Nat) (b : List Stmt) : Scope := match b[i]? with
  | some (.Return (some e) _) => exS d e
  | some (.Assign _ e _) => exS d e
  | _ => d
/-- ascending numbers below n -/
def Asc (n : Int) (xs : List Int) : Prop := xs.Pairwise (· < ·) ∧ ∀ x ∈ xs, 0 ≤ x ∧ x < n
/-- rows of rows of ints -/
def CubB (mk : List V → HO) (H : Hp) : List Addr → List (List Addr) → List (List (List Int)) → Prop
  | [], [], [] => True
  | a :: as, bs :: bss, r :: rs => (H a = some (mk (bs.map V.ref)) ∧ RowsA mk H bs r) ∧ CubB mk H as bss rs
  | _, _, _ => False
theorem cub_keep {mk : List V → HO} {H H' : Hp} : ∀ {as : List Addr} {bss : List (List Addr)} {c : List (List (List Int))}, (∀ b o, (b ∈ as ∨ ∃ bs ∈ bss, b ∈ bs) → H b = some o → H' b = some o) → CubB mk H as bss c → CubB mk H' as bss c
  | [], [], [], _, _ => True.intro
  | a :: as, bs :: bss, r :: rs, k, h => ⟨⟨k a _ (.inl List.mem_cons_self) h.1.1, h.1.2.keep fun b o hb => k b o (.inr ⟨bs, List.mem_cons_self, hb⟩)⟩, cub_keep (fun b o hb => k b o (by
      rcases hb with z | ⟨q, z, y⟩
      · exact .inl (List.mem_cons_of_mem _ z)
      · exact .inr ⟨q, List.mem_cons_of_mem _ z, y⟩)) h.2⟩
  | [], [], _ :: _, _, h => h.elim
  | [], _ :: _, _, _, h => h.elim
  | _ :: _, [], _, _, h => h.elim
  | _ :: _, _ :: _, [], _, h => h.elim
theorem cub_same {mk : List V → HO} {H H' : Hp} {as : List Addr} {bss : List (List Addr)} {c : List (List (List Int))} (s : Same H H') (h : CubB mk H as bss c) : CubB mk H' as bss c := cub_keep (fun b o _ e => s b o e) h
theorem cub_len {mk : List V → HO} {H : Hp} : ∀ {as : List Addr} {bss : List (List Addr)} {c : List (List (List Int))}, CubB mk H as bss c → as.length = c.length ∧ bss.length = c.length
  | [], [], [], _ => ⟨rfl, rfl⟩
  | a :: as, bs :: bss, r :: rs, h => ⟨congrArg (· + 1) (cub_len h.2).1, congrArg (· + 1) (cub_len h.2).2⟩
  | [], [], _ :: _, h => h.elim
  | [], _ :: _, _, h => h.elim
  | _ :: _, [], _, h => h.elim
  | _ :: _, _ :: _, [], h => h.elim
theorem cub_snoc {mk : List V → HO} {H : Hp} {a : Addr} {bs : List Addr} {r : List (List Int)} (h1 : H a = some (mk (bs.map V.ref))) (h2 : RowsA mk H bs r) : ∀ {as : List Addr} {bss : List (List Addr)} {c : List (List (List Int))}, CubB mk H as bss c → CubB mk H (as ++ [a]) (bss ++ [bs]) (c ++ [r])
  | [], [], [], _ => ⟨⟨h1, h2⟩, True.intro⟩
  | b :: as, cs :: bss, q :: rs, h => ⟨h.1, cub_snoc h1 h2 h.2⟩
  | [], [], _ :: _, h => h.elim
  | [], _ :: _, _, h => h.elim
  | _ :: _, [], _, h => h.elim
  | _ :: _, _ :: _, [], h => h.elim
theorem cub_get {mk : List V → HO} {H : Hp} : ∀ {as : List Addr} {bss : List (List Addr)} {c : List (List (List Int))} {i : Nat} {a : Addr}, CubB mk H as bss c → as[i]? = some a → ∃ bs r, bss[i]? = some bs ∧ c[i]? = some r ∧ H a = some (mk (bs.map V.ref)) ∧ RowsA mk H bs r
  | [], _, _, _, _, _, e => by simp at e
  | a :: as, bs :: bss, r :: rs, 0, b, h, e => by
    have : a = b := Option.some.inj e
    subst this
    exact ⟨bs, r, rfl, rfl, h.1.1, h.1.2⟩
  | a :: as, bs :: bss, r :: rs, i + 1, b, h, e => cub_get (i := i) h.2 e
  | _ :: _, [], _, _, _, h, _ => h.elim
  | _ :: _, _ :: _, [], _, _, h, _ => h.elim
theorem cub_some {mk : List V → HO} {H : Hp} : ∀ {as : List Addr} {bss : List (List Addr)} {c : List (List (List Int))} {b : Addr}, CubB mk H as bss c → (b ∈ as ∨ ∃ bs ∈ bss, b ∈ bs) → ∃ o, H b = some o
  | [], [], _, _, _, h => by
    rcases h with h | ⟨_, h, _⟩
    · simp at h
    · simp at h
  | a :: as, bs :: bss, r :: rs, b, h, m => by
    rcases m with m | ⟨q, m, y⟩
    · rcases List.mem_cons.mp m with z | z
      · rw [z]; exact ⟨_, h.1.1⟩
      · exact cub_some h.2 (.inl z)
    · rcases List.mem_cons.mp m with z | z
      · rw [z] at y; exact rows_some h.1.2 y
      · exact cub_some h.2 (.inr ⟨q, z, y⟩)
  | [], _ :: _, _, _, h, _ => h.elim
  | _ :: _, [], _, _, h, _ => h.elim
  | _ :: _, _ :: _, [], _, h, _ => h.elim
/-- an object that is not one of the rows may change -/
theorem cub_tup {H : Hp} {x : Addr} {o : HO} (hx : ∀ ys, H x ≠ some (.tup ys)) : ∀ {as : List Addr} {bss : List (List Addr)} {c : List (List (List Int))}, CubB .tup H as bss c → CubB .tup (upd H x o) as bss c
  | [], [], [], _ => True.intro
  | a :: as, bs :: bss, r :: rs, h => ⟨⟨by
      have h1 := h.1.1
      rw [upd_ne (fun z => by rw [z] at h1; exact hx _ h1)]
      exact h1, rowsUpd hx h.1.2⟩, cub_tup hx h.2⟩
  | [], [], _ :: _, h => h.elim
  | [], _ :: _, _, h => h.elim
  | _ :: _, [], _, h => h.elim
  | _ :: _, _ :: _, [], h => h.elim
theorem rows_kp {mk : List V → HO} {H H' : Hp} {x : Addr} (hx : ∀ ys, H x ≠ some (mk ys)) (k : Kp x H H') : ∀ {as : List Addr} {rs : List (List Int)}, RowsA mk H as rs → RowsA mk H' as rs
  | [], [], _ => True.intro
  | a :: as, r :: rs, h => ⟨k _ _ (fun z => by have h1 := h.1; rw [z] at h1; exact hx _ h1) h.1, rows_kp hx k h.2⟩
  | [], _ :: _, h => h.elim
  | _ :: _, [], h => h.elim
theorem cub_kp {mk : List V → HO} {H H' : Hp} {x : Addr} (hx : ∀ ys, H x ≠ some (mk ys)) (k : Kp x H H') : ∀ {as : List Addr} {bss : List (List Addr)} {c : List (List (List Int))}, CubB mk H as bss c → CubB mk H' as bss c
  | [], [], [], _ => True.intro
  | a :: as, bs :: bss, r :: rs, h => ⟨⟨k _ _ (fun z => by have h1 := h.1.1; rw [z] at h1; exact hx _ h1) h.1.1, rows_kp hx k h.1.2⟩, cub_kp hx k h.2⟩
  | [], [], _ :: _, h => h.elim
  | [], _ :: _, _, h => h.elim
  | _ :: _, [], _, h => h.elim
  | _ :: _, _ :: _, [], h => h.elim
def bf (L : Int) (it at_ rt : Addr) : List (Str × V) := putF "rows" (.ref rt) (putF "accepting" (.ref at_) (putF "initial" (.ref it) (putF "letters" (.int L) [])))
theorem bf_L (L : Int) (a b c : Addr) : (bf L a b c).lookup ("letters" : Str) = some (.int L) := by
  unfold bf
  rw [lookup_putF, if_neg (by decide +kernel), lookup_putF, if_neg (by decide +kernel), lookup_putF, if_neg (by decide +kernel), lookup_putF, if_pos rfl]
theorem bf_i (L : Int) (a b c : Addr) : (bf L a b c).lookup ("initial" : Str) = some (.ref a) := by
  unfold bf
  rw [lookup_putF, if_neg (by decide +kernel), lookup_putF, if_neg (by decide +kernel), lookup_putF, if_pos rfl]
theorem bf_a (L : Int) (a b c : Addr) : (bf L a b c).lookup ("accepting" : Str) = some (.ref b) := by
  unfold bf
  rw [lookup_putF, if_neg (by decide +kernel), lookup_putF, if_pos rfl]
theorem bf_r (L : Int) (a b c : Addr) : (bf L a b c).lookup ("rows" : Str) = some (.ref c) := by
  unfold bf
  rw [lookup_putF, if_pos rfl]
def AutAt (C : Addr) (H : Hp) (x : Addr) (L : Int) (ini acc : List Int) (c : List (List (List Int))) : Prop := ∃ (dx it at_ rt : Addr) (as : List Addr) (bss : List (List Addr)), H x = some (.ins C dx (bf L it at_ rt)) ∧ TupI H it ini ∧ TupI H at_ acc ∧ H rt = some (.tup (as.map V.ref)) ∧ CubB .tup H as bss c
theorem aut_same {C : Addr} {H H' : Hp} {x : Addr} {L : Int} {ini acc : List Int} {c : List (List (List Int))} (k : Same H H') (h : AutAt C H x L ini acc c) : AutAt C H' x L ini acc c := by
  obtain ⟨dx, it, at_, rt, as, bss, e1, e2, e3, e4, e5⟩ := h
  exact ⟨dx, it, at_, rt, as, bss, k _ _ e1, k _ _ e2, k _ _ e3, k _ _ e4, cub_same k e5⟩
structure AutC (K : PySem.W.Frag) (C : Addr) : Prop where
  cl : Cls K C
  nL : NoAttr K C "letters"
  nI : NoAttr K C "initial"
  nA : NoAttr K C "accepting"
  nR : NoAttr K C "rows"
  c1 : PySem.W.findIn K (.ref C) "__class__" = some (some (.builtin "object.__class__"))
  c2 : PySem.W.specialIn K (.builtin "object.__class__") "__get__" = some (some (.builtin "getset_descriptor.__get__"))
  c3 : PySem.W.takesIn K (.builtin "object.__class__") = some true
  c4 : PySem.W.mroIn K C (.type "object") = some true
  c5 : PySem.W.kitOne K (.ref C) (.ref C) = some true
def VldB (L : Int) (ini acc : List Int) (c : List (List (List Int))) : Prop := 1 ≤ L ∧ c ≠ [] ∧ Asc c.length ini ∧ Asc c.length acc ∧ ∀ r ∈ c, (r.length : Int) = L ∧ ∀ e ∈ r, Asc c.length e
/-- a list of lists of lists -/
def LC (H : Hp) (r : Addr) (as : List Addr) (bss : List (List Addr)) (c : List (List (List Int))) : Prop := H r = some (.lst (as.map V.ref)) ∧ CubB .lst H as bss c
def spChecks (cI : Addr) : Sp := fun vs H Q E => ∃ (a : Addr) (xs : List Int) (n : Int), vs = [.ref a, .int n] ∧ H a = some (.lst (xs.map V.int)) ∧ (¬ Asc n xs → E (.ref cI) none H) ∧ (Asc n xs → Q .non H)
def spInitB (C cI : Addr) : Sp := fun vs H Q E => ∃ (x i a r dx : Addr) (L : Int) (ini acc : List Int) (as : List Addr) (bss : List (List Addr)) (c : List (List (List Int))), vs = [.ref x, .int L, .ref i, .ref a, .ref r] ∧ H x = some (.ins C dx []) ∧ H i = some (.lst (ini.map V.int)) ∧ H a = some (.lst (acc.map V.int)) ∧ LC H r as bss c ∧
  c.length ≤ 1000 ∧ (∀ r ∈ c, r.length ≤ 1000) ∧ (¬ VldB L ini acc c → E (.ref cI) none H) ∧ (VldB L ini acc c → ∀ H', Kp x H H' → AutAt C H' x L ini acc c → Q .non H')
end Bx
local macro_rules | `(tactic| walk_at "bx") => `(tactic| repeat (first
  | refine ⟨_, rfl, ?_⟩
  | refine ⟨_, _, rfl, rfl, ?_⟩
  | refine ⟨rfl, ?_⟩
  | refine Or.inl ⟨_, rfl, ?_⟩
  | refine ⟨Or.inr ⟨by decide, by decide⟩, ?_⟩
  | refine ⟨Or.inl ⟨by decide, by decide⟩, ?_⟩
  | refine ⟨(show (0 : Int) < _ by decide), ?_⟩
  | refine ⟨⟨by decide, by decide⟩, ?_⟩
  | refine ⟨_, _, rfl, Or.inl (L2.SqL.of (by assumption)), ?_⟩
  | refine ⟨_, _, rfl, Or.inr (L2.SqT.of (by assumption)), ?_⟩
  | refine ⟨Or.inl ⟨rfl, _, L2.SqL.of (by assumption)⟩, ?_⟩
  | refine ⟨_, _, _, rfl, rfl, (by assumption), ?_⟩
  | refine ⟨_, _, rfl, rfl, (by assumption), ?_⟩
  | refine ⟨_, _, _, _, rfl, rfl, L2.SqT.of (by assumption), (by assumption), ?_⟩
  | refine ⟨_, _, _, _, rfl, rfl, L2.SqL.of (by assumption), (by assumption), ?_⟩
  | refine ⟨_, _, rfl, Bx.SeqI.sq (by assumption), ?_⟩
  | refine And.intro (by assumption) ?_))
local macro_rules | `(tactic| walk_at "nl") => `(tactic| ((try unfold L2.tNil); (try unfold L2.tNoPart)))

namespace My
open PySem PySem.Spec PyProof.Rows L2 Bx
def topS (i : Nat) : Stmt := PySem.Challenge.pw_reactivesynth_k16_automaton.main.body.getD i (.Pass ⟨0, 0, 0, 0⟩)
abbrev s_check_states : Stmt := topS 5
abbrev N_check_states : List Str := ["states", "count", "before", "state"]
theorem sc_check_states : FnScope N_check_states ["states", "count"] (defScope s_check_states) := ⟨rfl, rfl, rfl, by decide +kernel, rfl, by decide +kernel, by decide +kernel⟩
abbrev s_law_draws : Stmt := topS 7
abbrev N_law_draws : List Str := ["script", "count", "cells", "found", "mixed", "k", "j", "cell", "again"]
theorem sc_law_draws : FnScope N_law_draws ["script", "count"] (defScope s_law_draws) := ⟨rfl, rfl, rfl, by decide +kernel, rfl, by decide +kernel, by decide +kernel⟩
abbrev s_law_take : Stmt := topS 8
abbrev N_law_take : List Str := ["draws", "limit"]
theorem sc_law_take : FnScope N_law_take ["draws", "limit"] (defScope s_law_take) := ⟨rfl, rfl, rfl, by decide +kernel, rfl, by decide +kernel, by decide +kernel⟩
abbrev s_law_is_integer : Stmt := topS 9
abbrev N_law_is_integer : List Str := ["actual"]
theorem sc_law_is_integer : FnScope N_law_is_integer ["actual"] (defScope s_law_is_integer) := ⟨rfl, rfl, rfl, by decide +kernel, rfl, by decide +kernel, by decide +kernel⟩
abbrev s_law_integers : Stmt := topS 10
abbrev N_law_integers : List Str := ["actual", "low", "high", "item"]
theorem sc_law_integers : FnScope N_law_integers ["actual", "low", "high"] (defScope s_law_integers) := ⟨rfl, rfl, rfl, by decide +kernel, rfl, by decide +kernel, by decide +kernel⟩
abbrev s_law_ascending : Stmt := topS 11
abbrev N_law_ascending : List Str := ["draws", "limit", "share", "k"]
theorem sc_law_ascending : FnScope N_law_ascending ["draws", "limit", "share"] (defScope s_law_ascending) := ⟨rfl, rfl, rfl, by decide +kernel, rfl, by decide +kernel, by decide +kernel⟩
abbrev s_law_automaton : Stmt := topS 12
abbrev N_law_automaton : List Str := ["draws", "letters", "most", "count", "share", "initial", "accepting", "rows", "state", "letter"]
theorem sc_law_automaton : FnScope N_law_automaton ["draws", "letters", "most"] (defScope s_law_automaton) := ⟨rfl, rfl, rfl, by decide +kernel, rfl, by decide +kernel, by decide +kernel⟩
abbrev s_law_copy : Stmt := topS 13
abbrev N_law_copy : List Str := ["rows", "row", "entry"]
theorem sc_law_copy : FnScope N_law_copy ["rows"] (defScope s_law_copy) := ⟨rfl, rfl, rfl, by decide +kernel, rfl, by decide +kernel, by decide +kernel⟩
abbrev s_law_states : Stmt := topS 14
abbrev N_law_states : List Str := ["actual", "count", "k"]
theorem sc_law_states : FnScope N_law_states ["actual", "count"] (defScope s_law_states) := ⟨rfl, rfl, rfl, by decide +kernel, rfl, by decide +kernel, by decide +kernel⟩
abbrev s_law_is_automaton : Stmt := topS 15
abbrev N_law_is_automaton : List Str := ["actual", "letters", "count", "row", "entry"]
theorem sc_law_is_automaton : FnScope N_law_is_automaton ["actual", "letters"] (defScope s_law_is_automaton) := ⟨rfl, rfl, rfl, by decide +kernel, rfl, by decide +kernel, by decide +kernel⟩
abbrev s_law_spoil_list : Stmt := topS 16
abbrev N_law_spoil_list : List Str := ["draws", "states", "count", "kind", "at"]
theorem sc_law_spoil_list : FnScope N_law_spoil_list ["draws", "states", "count"] (defScope s_law_spoil_list) := ⟨rfl, rfl, rfl, by decide +kernel, rfl, by decide +kernel, by decide +kernel⟩
abbrev s_law_outcome : Stmt := topS 17
abbrev N_law_outcome : List Str := ["letters", "initial", "accepting", "rows", "e"]
theorem sc_law_outcome : FnScope N_law_outcome ["letters", "initial", "accepting", "rows"] (defScope s_law_outcome) := ⟨rfl, rfl, rfl, by decide +kernel, rfl, by decide +kernel, by decide +kernel⟩
abbrev s_law : Stmt := topS 18
abbrev N_law : List Str := ["script", "draws", "letters", "initial", "accepting", "rows", "count", "spoilt", "state", "letter", "passed", "found", "row", "entry", "kept", "targets"]
theorem sc_law : FnScope N_law ["script"] (defScope s_law) := ⟨rfl, rfl, rfl, by decide +kernel, rfl, by decide +kernel, by decide +kernel⟩
abbrev s_Automaton_init : Stmt := inClass (topS 4) 0
abbrev N_Automaton_init : List Str := ["self", "letters", "initial", "accepting", "rows", "row", "states"]
theorem sc_Automaton_init : FnScope N_Automaton_init ["self", "letters", "initial", "accepting", "rows"] (defScope s_Automaton_init) := ⟨rfl, rfl, rfl, by decide +kernel, rfl, by decide +kernel, by decide +kernel⟩
structure Has (K : PySem.W.Frag) (mg : Str → Option Value) (x : Str) (st : Stmt) (ps : List Str) : Prop where
  ex : ∃ (f : Addr) (fd : FuncData), L2.Fun K x x st f fd ∧ mg x = some (.ref f) ∧ Binds K fd ps []
structure Txt (K : PySem.W.Frag) (mg : Str → Option Value) : Prop where
  h_check_states : Has K mg "check_states" s_check_states ["states", "count"]
  h_law_draws : Has K mg "_law_draws" s_law_draws ["script", "count"]
  h_law_take : Has K mg "_law_take" s_law_take ["draws", "limit"]
  h_law_is_integer : Has K mg "_law_is_integer" s_law_is_integer ["actual"]
  h_law_integers : Has K mg "_law_integers" s_law_integers ["actual", "low", "high"]
  h_law_ascending : Has K mg "_law_ascending" s_law_ascending ["draws", "limit", "share"]
  h_law_automaton : Has K mg "_law_automaton" s_law_automaton ["draws", "letters", "most"]
  h_law_copy : Has K mg "_law_copy" s_law_copy ["rows"]
  h_law_states : Has K mg "_law_states" s_law_states ["actual", "count"]
  h_law_is_automaton : Has K mg "_law_is_automaton" s_law_is_automaton ["actual", "letters"]
  h_law_spoil_list : Has K mg "_law_spoil_list" s_law_spoil_list ["draws", "states", "count"]
  h_law_outcome : Has K mg "_law_outcome" s_law_outcome ["letters", "initial", "accepting", "rows"]
  z_bool : mg "bool" = none
  z_int : mg "int" = none
  z_isinstance : mg "isinstance" = none
  z_len : mg "len" = none
  z_list : mg "list" = none
  z_range : mg "range" = none
  z_tuple : mg "tuple" = none
  er : ∃ (cS cI C fI : Addr) (fdI : FuncData), ErrC K mg "InvalidAutomaton" cI ∧ AutC K C ∧ Mk K C fI ∧ mg "Automaton" = some (.ref C) ∧ L2.Fun K "__init__" "Automaton.__init__" s_Automaton_init fI fdI ∧ Binds K fdI ["self", "letters", "initial", "accepting", "rows"] [] ∧ mg "SynthError" = some (.ref cS) ∧ PySem.W.kitOne K (.ref cI) (.ref cS) = some true

-- BODY

def spLaw (K : PySem.W.Frag) : Sp := fun vs H Q _ => ∃ (a : Addr) (ns : List Int), vs = [.ref a] ∧ SqL K H a (ns.map V.int) ∧ ns.length ≤ 63 ∧ ∀ H', Q (.bl true) H'
section
variable {P : Program} {w : World} {K : PySem.W.Frag} {mg : Str → Option Value} {base : Heap}
theorem cal_take (T : Txt K mg) : C8.Cal P w K mg base 1 "_law_take" spTake [] := by
  obtain ⟨f, fd, F, hm, hb⟩ := T.h_law_take
  refine ⟨f, fd, _, [], F.ok sc_law_take (fun vs H Q E h => ?_) (fun cdv A outer s H vs Q E hr h => ?_), hm, F.kp, hb, .nil⟩
  · obtain ⟨d, n, rfl, _⟩ := h
    rfl
  · obtain ⟨d, n, rfl, ⟨ds, hd⟩, hn, q⟩ := h
    refine ⟨_, (pss_cons
      (ps_if (pt_cmpR op_eq (pe_callB (call_lenK (K := K) rfl) (by rfl) T.z_len PySem.boot_len (pa_cons (pv 0) pa_nil)) pe_int (nomark _)) (pss_one
      (ps_ret pe_int)) pss_nil)
      (pss_one
      (ps_ret (pe_op op_mod (pe_callTy call_int1 (by rfl) T.z_int (by decide +kernel) (pa_cons (pe_bm0 PySem.F.plainAttrs_list PySem.F.slot_list_pop PySem.F.type_list_pop mt_pop (pv 0)) pa_nil)) (pv 1))))), ?_⟩
    walk_at "bx"
    refine ite2 (fun e => ?_) (fun e => ?_)
    · have q0 := q 0 ds (Int.le_refl 0) hn
      rw [upd_self hd] at q0
      exact q0
    · have hne : ds ≠ [] := fun z => e (by rw [z]; rfl)
      refine ⟨_, rfl, .inl ⟨rfl, _, SqL.of hd⟩, d, _, .int (ds.getLast hne), rfl, rfl, hd, ?_, ?_⟩
      · rw [List.length_map, List.getElem?_map, ← List.getLast?_eq_getElem?, List.getLast?_eq_getLast hne]
        rfl
      · walk_at "bx"
        rw [← List.map_dropLast]
        exact q _ _ (Int.emod_nonneg _ (by omega)) (Int.emod_lt_of_pos _ hn)
theorem cal_isint (T : Txt K mg) : C8.Cal P w K mg base 1 "_law_is_integer" spIsInt [] := by
  obtain ⟨f, fd, F, hm, hb⟩ := T.h_law_is_integer
  refine ⟨f, fd, _, [], F.ok sc_law_is_integer (fun vs H Q E h => ?_) (fun cdv A outer s H vs Q E hr h => ?_), hm, F.kp, hb, .nil⟩
  · obtain ⟨i, rfl, _⟩ := h
    rfl
  · obtain ⟨i, rfl, q⟩ := h
    refine ⟨_, (pss_one
      (ps_ret (pe_and (pe_callB (call_isiK' (K := K) rfl) (by rfl) T.z_isinstance (by decide +kernel) (pa_cons (pv 0) (pa_cons (pe_bltn (v := .ty "int") (by rfl) T.z_int (by decide +kernel) rfl) pa_nil))) (pe_one (pe_not (pe_callB (call_isiK' (K := K) rfl) (by rfl) T.z_isinstance (by decide +kernel) (pa_cons (pv 0) (pa_cons (pe_bltn (v := .ty "bool") (by rfl) T.z_bool (by decide +kernel) rfl) pa_nil)))))))), ?_⟩
    refine ⟨_, rfl, _, _, _, _, true, rfl, .ty "int", .base (.int i), kit_ty (by decide +kernel), true, rfl, iteT ?_⟩
    exact ⟨_, rfl, _, _, _, _, false, rfl, .ty "bool", .base (.int i), kit_ty (by decide +kernel), false, rfl, q⟩
theorem cal_draws (T : Txt K mg) : C8.Cal P w K mg base 1 "_law_draws" (spDraws K) [] := by
  obtain ⟨f, fd, F, hm, hb⟩ := T.h_law_draws
  refine ⟨f, fd, _, [], F.ok sc_law_draws (fun vs H Q E h => ?_) (fun cdv A outer s H vs Q E hr h => ?_), hm, F.kp, hb, .nil⟩
  · obtain ⟨a, ns, c, rfl, _⟩ := h
    rfl
  · obtain ⟨a, ns, n, rfl, hS, hn, q⟩ := h
    refine ⟨_, (pss_cons
      (ps_set (i := 2) sc_law_draws.nd rfl (Or.inl rfl) (pe_callTy (call_list_ofK (K := K) rfl) (by rfl) T.z_list (by decide +kernel) (pa_cons (pv 0) pa_nil)))
      (C8.pss_cut
      (ps_if (pt_cmpR op_eq (pe_callB (call_lenK (K := K) rfl) (by rfl) T.z_len PySem.boot_len (pa_cons (pv 2) pa_nil)) pe_int (nomark _)) (pss_one
      (ps_set (i := 2) sc_law_draws.nd rfl (Or.inl rfl) (pe_lst (pa_cons pe_int pa_nil)))) pss_nil)
      (pss_cons
      (ps_set (i := 3) sc_law_draws.nd rfl (Or.inl rfl) (pe_lst pa_nil))
      (pss_cons
      (ps_set (i := 4) sc_law_draws.nd rfl (Or.inl rfl) pe_int)
      (pss_cons
      (ps_for PassesOwn.never rfl (pi_range1 (by rfl) T.z_range (pa_cons (pv 1) pa_nil)) (pg_name (i := 5) sc_law_draws.nd rfl (.inl rfl)) (pss_cons
      (ps_set (i := 6) sc_law_draws.nd rfl (Or.inl rfl) (pe_op op_mod (pv 5) (pe_callB (call_lenK (K := K) rfl) (by rfl) T.z_len PySem.boot_len (pa_cons (pv 2) pa_nil))))
      (pss_cons
      (ps_set (i := 7) sc_law_draws.nd rfl (Or.inl rfl) (pe_ix (ix_listK (K := K) rfl) (pv 2) (pv 6) (fun _ _ => rfl)))
      (pss_cons
      (ps_set (i := 4) sc_law_draws.nd rfl (Or.inl rfl) (pe_op op_mod (pe_callTy call_int1 (by rfl) T.z_int (by decide +kernel) (pa_cons (pe_op op_add (pe_op op_add (pe_op op_add (pe_op op_mul (pv 4) pe_int) (pe_op op_mul (pe_op op_mod (pe_callTy call_int1 (by rfl) T.z_int (by decide +kernel) (pa_cons (pv 7) pa_nil)) pe_int) pe_int)) (pe_op op_mul (pv 5) pe_int)) pe_int) pa_nil)) pe_int))
      (pss_cons
      (ps_set (i := 8) sc_law_draws.nd rfl (Or.inl rfl) (pe_op op_mod (pe_callTy call_int1 (by rfl) T.z_int (by decide +kernel) (pa_cons (pe_op op_add (pe_op op_add (pe_op op_mul (pv 4) (pv 4)) (pe_op op_mul pe_int (pv 4))) (pv 5)) pa_nil)) pe_int))
      (pss_one
      (ps_if (pt_cmpR op_ge (pv 7) (pe_op op_pow pe_int pe_int) (nomark _)) (pss_cons
      (ps_expr (pe_bm PySem.F.plainAttrs_list PySem.F.slot_list_append PySem.F.type_list_append mt_append (pv 3) (pa_cons (pe_op op_mod (pe_callTy call_int1 (by rfl) T.z_int (by decide +kernel) (pa_cons (pv 7) pa_nil)) pe_int) pa_nil)))
      (pss_one
      (ps_asg (pe_op op_fdiv (pv 7) pe_int) (pg_sub (pv 2) (pv 6) set_list)))) (pss_one
      (ps_expr (pe_bm PySem.F.plainAttrs_list PySem.F.slot_list_append PySem.F.type_list_append mt_append (pv 3) (pa_cons (pe_op op_mod (pe_callTy call_int1 (by rfl) T.z_int (by decide +kernel) (pa_cons (pv 8) pa_nil)) pe_int) pa_nil)))))))))))
      (pss_cons
      (ps_expr (pe_bm0 PySem.F.plainAttrs_list PySem.F.slot_list_reverse PySem.F.type_list_reverse mt_reverse (pv 3)))
      (pss_one
      (ps_ret (pv 3))))))))), ?_⟩
    -- cells = list(script)
    refine ⟨_, rfl, a, _, rfl, .inl hS, fun l hl => ?_⟩
    -- if len(cells) == 0: cells = [7]
    refine ⟨fun σ H2 => ∃ (c : Addr) (cs : List Int), σ = [some (.ref a), some (.int n), some (.ref c), none, none, none, none, none, none] ∧ H c = none ∧ Same H H2 ∧ H2 c = some (.lst (cs.map V.int)) ∧ cs ≠ [], ?_, ?_⟩
    · have h0 : (upd H l (.lst (ns.map V.int))) l = some (.lst (ns.map V.int)) := upd_same
      walk_at "bx"
      refine ite2 (fun e => ?_) (fun e => ?_)
      · refine ⟨by show 1 ≤ sizeLine; decide, fun l2 h2 => ?_⟩
        have s1 : Same H (upd H l (.lst (ns.map V.int))) := same_new hl
        exact ⟨l2, [7], rfl, s1.free h2, s1.trans (same_new h2), upd_same, by decide⟩
      · exact ⟨l, ns, rfl, hl, same_new hl, upd_same, fun z => e (by rw [z]; rfl)⟩
    · rintro σ H2 ⟨c, cs, rfl, hc0, s2, hc, hcs⟩
      -- found = [], mixed = 12345
      refine ⟨Nat.zero_le _, fun o ho => ?_⟩
      have hco : c ≠ o := ne_of_none hc ho
      have ho0 : H o = none := s2.free ho
      -- for k in range(count)
      refine ⟨_, rfl, _, rfl, by omega, by omega, for_range (lo := 0) (n := ((n : Int)).toNat) (fun i σ H3 => ∃ (m : Int) (cs fs : List Int) (v5 v6 v7 v8 : Option V), σ = [some (.ref a), some (.int n), some (.ref c), some (.ref o), some (.int m), v5, v6, v7, v8] ∧ 0 ≤ m ∧ m < 2147483647 ∧ Same H H3 ∧ H3 c = some (.lst (cs.map V.int)) ∧ cs ≠ [] ∧ H3 o = some (.lst (fs.map V.int)) ∧ fs.length ≤ i)
        ⟨12345, cs, [], none, none, none, none, rfl, by decide, by decide, s2.trans (same_new ho), by rw [upd_ne hco]; exact hc, hcs, upd_same, Nat.le_refl _⟩ ?_ ?_⟩
      · rintro i σ H3 hi ⟨m, cs, fs, v5, v6, v7, v8, rfl, m0, m1, s3, hc, hcs, hf, hfl⟩
        have hl : 0 < cs.length := List.length_pos_iff.mpr hcs
        obtain ⟨z, hz⟩ : ∃ z, cs[i % cs.length]? = some z := ⟨_, List.getElem?_eq_getElem (Nat.mod_lt _ hl)⟩
        have ej : ((0 : Int) + (i : Int)) % (((cs.map V.int).length : Nat) : Int) = ((i % cs.length : Nat) : Int) := by
          rw [Int.zero_add, List.length_map]
          rfl
        -- j = k % len(cells)
        walk_at "bx"
        refine ⟨(show (0 : Int) < _ by rw [List.length_map]; omega), ?_⟩
        -- cell = cells[j]
        refine ⟨_, rfl, _, rfl, c, _, _, .int z, rfl, rfl, SqL.of hc, ?_, ?_⟩
        · rw [ej]
          exact atI_nat (by rw [List.getElem?_map, hz]; rfl)
        -- mixed, again
        walk_at "bx"
        have b1 : (0 : Int) ≤ z % 1000003 := Int.emod_nonneg _ (by decide)
        refine ⟨.inl ⟨?_, ?_⟩, ?_⟩
        · have := Int.emod_nonneg (m * 48271 + z % 1000003 * 69621 + (0 + (i : Int)) * 7919 + 11) (show (2147483647 : Int) ≠ 0 by decide)
          show -(2 ^ 64) < (m * 48271 + z % 1000003 * 69621 + (0 + (i : Int)) * 7919 + 11) % 2147483647
          omega
        · have := Int.emod_lt_of_pos (m * 48271 + z % 1000003 * 69621 + (0 + (i : Int)) * 7919 + 11) (show (0 : Int) < 2147483647 by decide)
          show (m * 48271 + z % 1000003 * 69621 + (0 + (i : Int)) * 7919 + 11) % 2147483647 < 2 ^ 64
          omega
        have c0 : 0 ≤ (m * 48271 + z % 1000003 * 69621 + (0 + (i : Int)) * 7919 + 11) % 2147483647 := Int.emod_nonneg _ (by decide)
        have c1 : (m * 48271 + z % 1000003 * 69621 + (0 + (i : Int)) * 7919 + 11) % 2147483647 < 2147483647 := Int.emod_lt_of_pos _ (by decide)
        walk_at "bx"
        refine ite2 (fun e => ?_) (fun e => ?_)
        · walk_at "bx"
          refine ⟨lenI (by omega), ?_⟩
          walk_at "bx"
          refine ⟨c, cs.map V.int, _, i % cs.length, rfl, rfl, by rw [upd_ne hco]; exact hc, by rw [ej]; exact ixN_at (by rw [List.length_map]; exact Nat.mod_lt _ hl), ?_⟩
          refine ⟨_, cs.set (i % cs.length) (z / 1000), fs ++ [z % 1000], _, _, _, _, rfl, c0, c1, fun b o' hb => ?_, by rw [upd_same, set_mapI], by simpa using hcs, by rw [upd_ne hco.symm, upd_same]; simp, by simp; omega⟩
          rw [upd_ne (fun z => by rw [z, hc0] at hb; cases hb), upd_ne (fun z => by rw [z, ho0] at hb; cases hb)]
          exact s3 _ _ hb
        · walk_at "bx"
          refine ⟨lenI (by omega), ?_⟩
          refine ⟨_, cs, fs ++ [_], _, _, _, _, rfl, c0, c1, fun b o' hb => ?_, by rw [upd_ne hco]; exact hc, hcs, by rw [upd_same, List.map_append]; rfl, by simp; omega⟩
          rw [upd_ne (fun z => by rw [z, ho0] at hb; cases hb)]
          exact s3 _ _ hb
      · rintro σ H3 ⟨m, cs, fs, v5, v6, v7, v8, rfl, m0, m1, s3, hc, hcs, hf, hfl⟩
        -- found.reverse()
        walk_at "bx"
        refine q _ o (fun b o' hb => ?_) ho0 ⟨fs.reverse, ?_⟩
        · rw [upd_ne (fun z => by rw [z, ho0] at hb; cases hb)]
          exact s3 _ _ hb
        · rw [upd_same, List.map_reverse]
theorem cal_ints (T : Txt K mg) : C8.Cal P w K mg base 2 "_law_integers" spInts [] := by
  have C_law_is_integer : C8.Cal P w K mg base 1 "_law_is_integer" spIsInt [] := cal_isint T
  obtain ⟨f, fd, F, hm, hb⟩ := T.h_law_integers
  refine ⟨f, fd, _, [], F.ok sc_law_integers (fun vs H Q E h => ?_) (fun cdv A outer s H vs Q E hr h => ?_), hm, F.kp, hb, .nil⟩
  · obtain ⟨a, xs, lo, hi, rfl, _⟩ := h
    rfl
  · obtain ⟨a, xs, lo, hi, rfl, ht, hx, q⟩ := h
    refine ⟨_, (pss_cons
      (ps_if (pt_not (pt_val (pe_callB (call_isiK' (K := K) rfl) (by rfl) T.z_isinstance (by decide +kernel) (pa_cons (pv 0) (pa_cons (pe_bltn (v := .ty "tuple") (by rfl) T.z_tuple (by decide +kernel) rfl) pa_nil))))) (pss_one
      (ps_ret pe_bl)) pss_nil)
      (pss_cons
      (ps_for PassesOwn.never rfl (pi_tup (pv 0)) (pg_name (i := 3) sc_law_integers.nd rfl (.inl rfl)) (pss_one
      (ps_if (PW.pt (pw_or (pt_not (pt_val (C8.pe_c C_law_is_integer hr (by decide) (by rfl) (pa_cons (pv 3) pa_nil)))) (pw_or (pt_cmpR op_lt (pv 3) (pv 1) (nomark _)) (pw_or1 (pt_cmpR op_ge (pv 3) (pv 2) (nomark _)))))) (pss_one
      (ps_ret pe_bl)) pss_nil)))
      (pss_one
      (ps_ret pe_bl)))), ?_⟩
    refine ⟨_, rfl, _, _, _, _, true, rfl, .ty "tuple", .base (.tup ht), kit_ty (by decide +kernel), true, rfl, ?_⟩
    refine ⟨_, rfl, a, rfl, ⟨_, .of ht⟩, for_tup (K := K) (a := a) (xs := xs.map V.int) (fun i σ H' => ∃ v : Option V, σ = [some (.ref a), some (.int lo), some (.int hi), v] ∧ H' = H) ⟨none, rfl, rfl⟩ (fun i σ H' _ ⟨_, _, e⟩ => by rw [e]; exact .of ht) ?_ ?_⟩
    · rintro i y σ H' hi ⟨v, rfl, rfl⟩
      obtain ⟨z, hz, rfl⟩ : ∃ z, xs[i]? = some z ∧ y = V.int z := by
        rw [List.getElem?_map] at hi
        cases e : xs[i]? with
        | none => rw [e] at hi; cases hi
        | some z => rw [e] at hi; exact ⟨z, rfl, (Option.some.inj hi).symm⟩
      obtain ⟨c1, c2⟩ := hx z (List.mem_of_getElem? hz)
      refine ⟨_, rfl, z, rfl, true, rfl, ?_⟩
      refine ⟨_, rfl, _, rfl, _, _, rfl, rfl, _, rfl, ite_lt (fun c => absurd c1 (by omega)) (fun _ => ?_)⟩
      refine ⟨_, rfl, _, rfl, _, _, rfl, rfl, _, rfl, ?_⟩
      refine ite2 (fun c => absurd (of_decide_eq_true c) (by omega)) (fun _ => ?_)
      exact ⟨_, rfl, rfl⟩
    · rintro σ H' ⟨v, rfl, rfl⟩
      exact q
/-! a fresh instance -/
theorem same_made {C x dx : Addr} {H1 H2 : Hp} (hx : H1 x = none) (hd : H1 dx = none) (k : Kp x (upd (upd H1 dx (.own x)) x (.ins C dx [])) H2) : Same H1 H2 := fun b o hb => by
  have n1 : b ≠ x := fun z => by rw [z, hx] at hb; cases hb
  have n2 : b ≠ dx := fun z => by rw [z, hd] at hb; cases hb
  refine k _ _ n1 ?_
  rw [upd_ne n1, upd_ne n2]
  exact hb
theorem same_fresh {C x dx : Addr} {H1 : Hp} (hx : H1 x = none) (hd : H1 dx = none) : Same H1 (upd (upd H1 dx (.own x)) x (.ins C dx [])) := same_made hx hd (Kp.refl _ _)
theorem RowsA.drop {H : Hp} {D : Addr} {o : HO} {as : List Addr} {rs : List (List Int)} (n : D ∉ as) (h : RowsA .lst H as rs) : RowsA .lst (upd H D o) as rs := h.keep fun b _ hb e => by rw [upd_ne (fun z => n (by rw [← z]; exact hb))]; exact e
def Cpy (H H' : Hp) (r' : Addr) (as' : List Addr) (rows : List (List Int)) : Prop := Same H H' ∧ LL H' r' as' rows ∧ (∀ b ∈ as', H b = none) ∧ H r' = none ∧ r' ∉ as'
/-- one more row of a copy -/
theorem cpy_step {H H' : Hp} {D t : Addr} {bs : List Addr} {rs : List (List Int)} {row : List Int} (h : Cpy H H' D bs rs) (ht : H' t = none) : Cpy H (upd (upd H' t (.lst (row.map V.int))) D (.lst ((bs ++ [t]).map V.ref))) D (bs ++ [t]) (rs ++ [row]) := by
  obtain ⟨s1, ⟨e1, R1⟩, n1, d1, m1⟩ := h
  have nt : D ≠ t := fun z => by rw [z, ht] at e1; cases e1
  refine ⟨fun b o hb => ?_, ⟨upd_same, ?_⟩, fun b hb => ?_, d1, fun z => ?_⟩
  · rw [upd_ne (ne_of_none hb d1), upd_ne (ne_of_none (s1 _ _ hb) ht)]
    exact s1 _ _ hb
  · refine RowsA.snoc ?_ (My.RowsA.drop m1 (R1.same (same_new ht)))
    rw [upd_ne nt.symm, upd_same]
  · rcases List.mem_append.mp hb with z | z
    · exact n1 b z
    · rw [List.mem_singleton.mp z]
      exact s1.free ht
  · rcases List.mem_append.mp z with y | y
    · exact m1 y
    · exact nt (List.mem_singleton.mp y)
theorem cpy_zero {H : Hp} {D : Addr} (hD : H D = none) : Cpy H (upd H D (.lst [])) D [] [] := ⟨same_new hD, ⟨upd_same, True.intro⟩, (by simp), hD, by simp⟩
theorem hp_kp {d p : Addr} {H H' : Hp} {o : HO} (k : Kp d H H') (n : d ≠ p) (h : H p = some o) : H' p = some o := k _ _ n.symm h
/-! data -/
def dRows (rows : List (List Int)) : List PyData := rows.map fun r => .list (r.map PyData.int)
theorem layRows : ∀ rows : List (List Int), PyData.canLayAll0 (dRows rows) = true
  | [] => rfl
  | r :: rs => by
    show PyData.canLayAll0 (PyData.list (r.map PyData.int) :: dRows rs) = true
    rw [PyData.canLayAll0, PyData.canLay0, layAll r, layRows rs]
    rfl
theorem depRows : ∀ rows : List (List Int), PyData.depthAll (dRows rows) ≤ 1
  | [] => by simp [dRows, PyData.depthAll]
  | r :: rs => by
    show PyData.depthAll (PyData.list (r.map PyData.int) :: dRows rs) ≤ 1
    have := depRows rs
    rw [PyData.depthAll, PyData.depth, depAll r]
    omega
theorem dpRows {K : PySem.W.Frag} {H : Hp} : ∀ {as : List Addr} {rows : List (List Int)}, RowsA .lst H as rows → DpAll K H (as.map V.ref) (dRows rows)
  | [], [], _ => .nil
  | a :: as, r :: rs, h => .cons (dp_lst h.1) (dpRows h.2)
  | [], _ :: _, h => h.elim
  | _ :: _, [], h => h.elim
def dTwo (ps : List Int) (rows : List (List Int)) : PyData := .list [.list (ps.map PyData.int), .list (dRows rows)]
def dFour (L s : Int) (ps : List Int) (rows : List (List Int)) : PyData := .tuple [.int L, .int s, .list (ps.map PyData.int), .list (dRows rows)]
theorem shaped_of {d : PyData} (h1 : d.canLay0 = true) (h2 : d.depth ≤ 64) : SeqAt.shaped d = true := by
  unfold SeqAt.shaped
  rw [h1, decide_eq_true h2]
  rfl
theorem lay_two (ps : List Int) (rows : List (List Int)) : (dTwo ps rows).canLay0 = true := by
  unfold dTwo
  rw [PyData.canLay0, PyData.canLayAll0, PyData.canLayAll0, PyData.canLayAll0, PyData.canLay0, layAll, PyData.canLay0, layRows]
  rfl
theorem lay_four (L s : Int) (ps : List Int) (rows : List (List Int)) : (dFour L s ps rows).canLay0 = true := by
  unfold dFour
  rw [PyData.canLay0, PyData.canLayAll0, PyData.canLayAll0, PyData.canLayAll0, PyData.canLayAll0, PyData.canLayAll0, PyData.canLay0, PyData.canLay0, PyData.canLay0, layAll, PyData.canLay0, layRows]
  rfl
theorem shaped_two (ps : List Int) (rows : List (List Int)) : SeqAt.shaped (dTwo ps rows) = true := by
  refine shaped_of (lay_two ps rows) ?_
  unfold dTwo
  have := depRows rows
  rw [PyData.depth, PyData.depthAll, PyData.depthAll, PyData.depthAll, PyData.depth, depAll, PyData.depth]
  omega
theorem shaped_four (L s : Int) (ps : List Int) (rows : List (List Int)) : SeqAt.shaped (dFour L s ps rows) = true := by
  refine shaped_of (lay_four L s ps rows) ?_
  unfold dFour
  have := depRows rows
  rw [PyData.depth, PyData.depthAll, PyData.depthAll, PyData.depthAll, PyData.depthAll, PyData.depthAll, PyData.depth, PyData.depth, PyData.depth, depAll, PyData.depth]
  omega
theorem dp_two {H : Hp} {t p r : Addr} {as : List Addr} {ps : List Int} {rows : List (List Int)} (ht : H t = some (.lst [.ref p, .ref r])) (hp : H p = some (.lst (ps.map V.int))) (hr : LL H r as rows) : Dp K H (.ref t) (dTwo ps rows) :=
  .lst (.of ht) (.cons (dp_lst hp) (.cons (.lst (.of hr.1) (dpRows hr.2)) .nil))
theorem dp_four {H : Hp} {t p r : Addr} {as : List Addr} {L s : Int} {ps : List Int} {rows : List (List Int)} (ht : H t = some (.tup [.int L, .int s, .ref p, .ref r])) (hp : H p = some (.lst (ps.map V.int))) (hr : LL H r as rows) : Dp K H (.ref t) (dFour L s ps rows) :=
  .tup (.of ht) (.cons (.int L) (.cons (.int s) (.cons (dp_lst hp) (.cons (.lst (.of hr.1) (dpRows hr.2)) .nil))))
theorem cal_checks {cI : Addr} (T : Txt K mg) (eI : ErrC K mg "InvalidAutomaton" cI) : CalX P w K mg base 1 "check_states" (spChecks cI) := by
  obtain ⟨f, fd, F, hm, hb⟩ := T.h_check_states
  refine ⟨f, fd, _, F.okX sc_check_states (fun vs H Q E h => ?_) (fun cdv A outer s H vs Q E hr h => ?_), hm, F.kp, hb⟩
  · obtain ⟨a, xs, n, rfl, _⟩ := h
    rfl
  · obtain ⟨a, xs, n, rfl, ha, q1, q2⟩ := h
    refine ⟨_, (pss_cons
      (ps_set (i := 2) sc_check_states.nd rfl (Or.inl rfl) (pe_un un_neg pe_int))
      (pss_one
      (ps_for (passes_of rfl) rfl (pi_list (pv 0)) (pg_name (i := 3) sc_check_states.nd rfl (.inl rfl)) (pss_cons
      (ps_if (PW.pt (pw_or (pt_cmpR op_le (pv 3) (pv 2) (nomark _)) (pw_or1 (pt_cmpR op_ge (pv 3) (pv 1) (nomark _))))) (pss_one
      (ps_raise rfl (takes_of rfl rfl rfl rfl) (eI.made rfl))) pss_nil)
      (pss_one
      (ps_set (i := 2) sc_check_states.nd rfl (Or.inl rfl) (pv 3))))))), ?_⟩
    refine ⟨_, rfl, ?_⟩
    refine ⟨_, rfl, a, rfl, ⟨_, .of ha⟩, for_list (K := K) (a := a) (xs := xs.map V.int) (fun i σ H' => ∃ (b : Int) (v : Option V), σ = [some (.ref a), some (.int n), some (.int b), v] ∧ H' = H ∧ Asc n (xs.take i) ∧ -1 ≤ b ∧ (∀ x ∈ xs.take i, x ≤ b) ∧ (b = -1 ∨ b ∈ xs.take i))
      ⟨-1, none, rfl, rfl, ⟨by simp, by simp⟩, by omega, by simp, .inl rfl⟩ (fun i σ H' _ ⟨_, _, _, z, _⟩ => by rw [z]; exact .of ha) ?_ ?_⟩
    · rintro i y σ H' hi ⟨b, v, rfl, rfl, hA, hb1, hle, hor⟩
      obtain ⟨z, hz, rfl⟩ := ints_get hi
      have cutE : xs = xs.take i ++ z :: xs.drop (i + 1) := by
        conv => lhs; rw [← List.take_append_drop i xs]
        congr 1
        exact List.drop_eq_getElem?_toList_append.trans (by rw [hz]; rfl)
      refine ⟨_, rfl, _, rfl, _, _, rfl, rfl, _, rfl, ite2 (fun c => ?_) (fun c => ?_)⟩
      · have c := of_decide_eq_true c
        refine q1 fun hasc => ?_
        have hz0 := (hasc.2 z (List.mem_of_getElem? hz)).1
        rcases hor with u | u
        · omega
        · have hp := hasc.1
          rw [cutE] at hp
          have := (List.pairwise_append.mp hp).2.2 b u z List.mem_cons_self
          omega
      have c1 : ¬ z ≤ b := fun u => c (decide_eq_true u)
      refine ⟨_, rfl, _, rfl, _, _, rfl, rfl, _, rfl, ite2 (fun c => ?_) (fun c => ?_)⟩
      · have c := of_decide_eq_true c
        refine q1 fun hasc => ?_
        have := (hasc.2 z (List.mem_of_getElem? hz)).2
        omega
      have c2 : ¬ n ≤ z := fun u => c (decide_eq_true u)
      refine ⟨_, rfl, z, _, rfl, rfl, ⟨?_, fun x hx => ?_⟩, by omega, fun x hx => ?_, .inr (by rw [take_get hz]; simp)⟩
      · rw [take_get hz]
        refine List.pairwise_append.mpr ⟨hA.1, by simp, fun x hx y hy => ?_⟩
        rw [List.mem_singleton.mp hy]
        have := hle x hx
        omega
      · rw [take_get hz] at hx
        rcases List.mem_append.mp hx with u | u
        · exact hA.2 x u
        · rw [List.mem_singleton.mp u]
          omega
      · rw [take_get hz] at hx
        rcases List.mem_append.mp hx with u | u
        · have := hle x u
          omega
        · rw [List.mem_singleton.mp u]
          exact Int.le_refl _
    · rintro σ H' ⟨b, v, rfl, rfl, hA, _⟩
      rw [List.length_map, List.take_length] at hA
      exact q2 hA
theorem ok_initB {cI C fI : Addr} {fdI : FuncData} (T : Txt K mg) (eI : ErrC K mg "InvalidAutomaton" cI) (PC : AutC K C) (F : L2.Fun K "__init__" "Automaton.__init__" s_Automaton_init fI fdI) :
    FnOk P w K mg base (L2.CX P w) 2 fI fdI ["self", "letters", "initial", "accepting", "rows"] (spInitB C cI) := by
  have X_check_states : CalX P w K mg base 1 "check_states" (spChecks cI) := cal_checks T eI
  refine F.okX sc_Automaton_init (fun vs H Q E h => ?_) (fun cdv A outer s H vs Q E hr h => ?_)
  · obtain ⟨x, i, a, r, dx, L, ini, acc, as, bss, c, rfl, _⟩ := h
    rfl
  · obtain ⟨x, ia, aa, r, dx, L, ini, acc, as, bss, cu, rfl, hx, hi, ha, hL, l1, l2, q1, q2⟩ := h
    refine ⟨_, (pss_cons
      (ps_if (pt_cmpR op_lt (pv 1) pe_int (nomark _)) (pss_one
      (ps_raise rfl (takes_of rfl rfl rfl rfl) (eI.made rfl))) pss_nil)
      (pss_cons
      (ps_if (pt_cmpR op_eq (pe_callB (call_lenK (K := K) rfl) (by rfl) T.z_len PySem.boot_len (pa_cons (pv 4) pa_nil)) pe_int (nomark _)) (pss_one
      (ps_raise rfl (takes_of rfl rfl rfl rfl) (eI.made rfl))) pss_nil)
      (pss_cons
      (ps_expr (pe_cx X_check_states hr (by decide) (takes_of rfl rfl rfl rfl) (by rfl) (pa_cons (pv 2) (pa_cons (pe_callB (call_lenK (K := K) rfl) (by rfl) T.z_len PySem.boot_len (pa_cons (pv 4) pa_nil)) pa_nil))))
      (pss_cons
      (ps_expr (pe_cx X_check_states hr (by decide) (takes_of rfl rfl rfl rfl) (by rfl) (pa_cons (pv 3) (pa_cons (pe_callB (call_lenK (K := K) rfl) (by rfl) T.z_len PySem.boot_len (pa_cons (pv 4) pa_nil)) pa_nil))))
      (pss_cons
      (ps_for (passes_of rfl) rfl (pi_list (pv 4)) (pg_name (i := 5) sc_Automaton_init.nd rfl (.inl rfl)) (pss_cons
      (ps_if (pt_cmpR op_ne (pe_callB (call_lenK (K := K) rfl) (by rfl) T.z_len PySem.boot_len (pa_cons (pv 5) pa_nil)) (pv 1) (nomark _)) (pss_one
      (ps_raise rfl (takes_of rfl rfl rfl rfl) (eI.made rfl))) pss_nil)
      (pss_one
      (ps_for (passes_of rfl) rfl (pi_list (pv 5)) (pg_name (i := 6) sc_Automaton_init.nd rfl (.inl rfl)) (pss_one
      (ps_expr (pe_cx X_check_states hr (by decide) (takes_of rfl rfl rfl rfl) (by rfl) (pa_cons (pv 6) (pa_cons (pe_callB (call_lenK (K := K) rfl) (by rfl) T.z_len PySem.boot_len (pa_cons (pv 4) pa_nil)) pa_nil)))))))))
      (pss_cons
      (ps_fld (pv 0) (pv 1) rfl)
      (pss_cons
      (ps_fld (pv 0) (pe_callTy (call_tuple_ofK (K := K) rfl) (by rfl) T.z_tuple (by decide +kernel) (pa_cons (pv 2) pa_nil)) rfl)
      (pss_cons
      (ps_fld (pv 0) (pe_callTy (call_tuple_ofK (K := K) rfl) (by rfl) T.z_tuple (by decide +kernel) (pa_cons (pv 3) pa_nil)) rfl)
      (pss_one
      (ps_fld (pv 0) (pe_callTy (call_tuple_ofK (K := K) rfl) (by rfl) T.z_tuple (by decide +kernel) (pa_cons (pe_lc (own := [("row", 5)]) (g := gName 5) (tt := tYes) rfl sc_Automaton_init.nd (pi_list (pv 4)) (blkOk_by (N := N_Automaton_init) (sc := defScope s_Automaton_init) (by decide +kernel)) (fun _ _ _ _ _ => pg_name (i := 5) sc_Automaton_init.nd rfl (Or.inl rfl)) (fun _ _ _ _ _ => pts_nil) (fun _ _ _ _ _ => (pe_callTy (call_tuple_ofK (K := K) rfl) (by rfl) T.z_tuple (by decide +kernel) (pa_cons (pe_lc (own := [("states", 6)]) (g := gName 6) (tt := tYes) rfl sc_Automaton_init.nd (pi_listK (K := K) rfl (pv 5)) (blkOk_by (N := N_Automaton_init) (sc := stS (defScope s_Automaton_init) 8 (defBody s_Automaton_init)) (by decide +kernel)) (fun _ _ _ _ _ => pg_name (i := 6) sc_Automaton_init.nd rfl (Or.inl rfl)) (fun _ _ _ _ _ => pts_nil) (fun _ _ _ _ _ => (pe_callTy (call_tuple_ofK (K := K) rfl) (by rfl) T.z_tuple (by decide +kernel) (pa_cons (pv 6) pa_nil)))) pa_nil)))) pa_nil)) rfl)))))))))), ?_⟩
    have hl2 : (as.map V.ref).length = cu.length := by rw [List.length_map, (cub_len hL.2).1]
    refine ⟨_, rfl, _, _, rfl, rfl, _, rfl, ite_lt (fun c => q1 (fun v => by have := v.1; omega)) (fun c1 => ?_)⟩
    refine ⟨_, rfl, r, _, rfl, .inl (.of hL.1), rfl, _, rfl, ite_eq (fun c => ?_) (fun c2 => ?_)⟩
    · exact q1 fun v => v.2.1 (List.length_eq_zero_iff.mp (by omega))
    have hne : cu ≠ [] := fun z => c2 (by rw [hl2, z]; rfl)
    refine ⟨_, rfl, _, rfl, r, _, rfl, .inl (.of hL.1), ia, ini, _, rfl, hi, fun c => q1 fun v => c (by rw [hl2]; exact v.2.2.1), fun c3 => ?_⟩
    refine ⟨_, rfl, _, rfl, r, _, rfl, .inl (.of hL.1), aa, acc, _, rfl, ha, fun c => q1 fun v => c (by rw [hl2]; exact v.2.2.2.1), fun c4 => ?_⟩
    rw [hl2] at c3 c4
    refine ⟨_, rfl, r, rfl, ⟨_, .of hL.1⟩, for_list (K := K) (a := r) (xs := as.map V.ref) (fun i σ' H' => ∃ v5 v6 : Option V, σ' = [some (.ref x), some (.int L), some (.ref ia), some (.ref aa), some (.ref r), v5, v6] ∧ H' = H ∧ ∀ q ∈ cu.take i, (q.length : Int) = L ∧ ∀ e ∈ q, Asc cu.length e)
      ⟨_, _, rfl, rfl, by simp⟩ (fun i σ' H' _ ⟨_, _, _, z, _⟩ => by rw [z]; exact .of hL.1) ?_ ?_⟩
    · rintro i v σ' H' hi2 ⟨v5, v6, rfl, rfl, hall⟩
      obtain ⟨a, haa, rfl⟩ := refs_get hi2
      obtain ⟨bs, row, hbs, hrow, hra, hR⟩ := cub_get hL.2 haa
      have hmem := List.mem_of_getElem? hrow
      have hbl : (bs.map V.ref).length = row.length := by rw [List.length_map, hR.len]
      refine ⟨_, rfl, a, _, rfl, .inl (.of hra), _, rfl, rfl, _, rfl, ite_ne (fun c => ?_) (fun c5 => ?_)⟩
      · exact q1 fun v => c (by rw [hbl]; exact (v.2.2.2.2 row hmem).1)
      rw [hbl] at c5
      refine ⟨_, rfl, a, rfl, ⟨_, .of hra⟩, for_list (K := K) (a := a) (xs := bs.map V.ref) (fun j σ' H2 => ∃ v6 : Option V, σ' = [some (.ref x), some (.int L), some (.ref ia), some (.ref aa), some (.ref r), some (.ref a), v6] ∧ H2 = H' ∧ ∀ e ∈ row.take j, Asc cu.length e)
        ⟨_, rfl, rfl, by simp⟩ (fun i σ' H' _ ⟨_, _, z, _⟩ => by rw [z]; exact .of hra) ?_ ?_⟩
      · rintro j v σ' H2 hj ⟨v6, rfl, rfl, hall2⟩
        obtain ⟨b, hb, rfl⟩ := refs_get hj
        obtain ⟨e, he, hbe⟩ := hR.get hb
        refine ⟨_, rfl, _, rfl, r, _, rfl, .inl (.of hL.1), b, e, _, rfl, hbe, fun c => q1 fun v => c (by rw [hl2]; exact (v.2.2.2.2 row hmem).2 e (List.mem_of_getElem? he)), fun c6 => ?_⟩
        rw [hl2] at c6
        refine ⟨_, rfl, rfl, fun z hz => ?_⟩
        rw [take_get he] at hz
        rcases List.mem_append.mp hz with k | k
        · exact hall2 z k
        · rw [List.mem_singleton.mp k]
          exact c6
      · rintro σ' H2 ⟨v6, rfl, rfl, hall2⟩
        rw [hbl, List.take_length] at hall2
        refine ⟨_, _, rfl, rfl, fun z hz => ?_⟩
        rw [take_get hrow] at hz
        rcases List.mem_append.mp hz with k | k
        · exact hall z k
        · rw [List.mem_singleton.mp k]
          exact ⟨c5, hall2⟩
    · rintro σ' H' ⟨v5, v6, rfl, rfl, hall⟩
      rw [hl2, List.take_length] at hall
      have hv : VldB L ini acc cu := ⟨by omega, hne, c3, c4, hall⟩
      have nix : ia ≠ x := fun z => by rw [z, hx] at hi; cases hi
      have nax : aa ≠ x := fun z => by rw [z, hx] at ha; cases ha
      have nrx : r ≠ x := fun z => by have := hL.1; rw [z, hx] at this; cases this
      -- self.letters
      refine ⟨_, rfl, _, rfl, x, C, dx, [], rfl, hx, PC.cl, PC.nL, by decide, ?_⟩
      have k1 : Kp x H' (upd H' x (.ins C dx (putF "letters" (.int L) []))) := Kp.own
      have x1 : (upd H' x (.ins C dx (putF "letters" (.int L) []))) x = some (.ins C dx (putF "letters" (.int L) [])) := upd_same
      generalize upd H' x (.ins C dx (putF "letters" (.int L) [])) = H1 at *
      -- self.initial
      refine ⟨_, rfl, ia, _, rfl, .inl ⟨.of (k1 _ _ nix hi), fun it hit => ?_⟩⟩
      have nxi : x ≠ it := fun z => by rw [z, hit] at x1; cases x1
      refine ⟨_, rfl, x, C, dx, _, rfl, by rw [upd_ne nxi]; exact x1, PC.cl, PC.nI, pl_lt (pl_next pl_0) (by decide), ?_⟩
      have k2 : Kp x H1 (upd (upd H1 it (.tup (ini.map V.int))) x (.ins C dx (putF "initial" (.ref it) (putF "letters" (.int L) [])))) := (Kp.new hit).trans Kp.own
      have x2 : (upd (upd H1 it (.tup (ini.map V.int))) x (.ins C dx (putF "initial" (.ref it) (putF "letters" (.int L) [])))) x = some (.ins C dx (putF "initial" (.ref it) (putF "letters" (.int L) []))) := upd_same
      have t2 : TupI (upd (upd H1 it (.tup (ini.map V.int))) x (.ins C dx (putF "initial" (.ref it) (putF "letters" (.int L) [])))) it ini := by
        show _ = _
        rw [upd_ne nxi.symm, upd_same]
      generalize upd (upd H1 it (.tup (ini.map V.int))) x (.ins C dx (putF "initial" (.ref it) (putF "letters" (.int L) []))) = H2 at *
      -- self.accepting
      refine ⟨_, rfl, aa, _, rfl, .inl ⟨.of (k2 _ _ nax (k1 _ _ nax ha)), fun at_ hat => ?_⟩⟩
      have nxa : x ≠ at_ := fun z => by rw [z, hat] at x2; cases x2
      refine ⟨_, rfl, x, C, dx, _, rfl, by rw [upd_ne nxa]; exact x2, PC.cl, PC.nA, pl_lt (pl_next (pl_next pl_0)) (by decide), ?_⟩
      have k3 : Kp x H2 (upd (upd H2 at_ (.tup (acc.map V.int))) x (.ins C dx (putF "accepting" (.ref at_) (putF "initial" (.ref it) (putF "letters" (.int L) []))))) := (Kp.new hat).trans Kp.own
      have x3 : (upd (upd H2 at_ (.tup (acc.map V.int))) x (.ins C dx (putF "accepting" (.ref at_) (putF "initial" (.ref it) (putF "letters" (.int L) []))))) x = some (.ins C dx (putF "accepting" (.ref at_) (putF "initial" (.ref it) (putF "letters" (.int L) [])))) := upd_same
      have t3 : TupI (upd (upd H2 at_ (.tup (acc.map V.int))) x (.ins C dx (putF "accepting" (.ref at_) (putF "initial" (.ref it) (putF "letters" (.int L) []))))) at_ acc := by
        show _ = _
        rw [upd_ne nxa.symm, upd_same]
      have t23 : TupI (upd (upd H2 at_ (.tup (acc.map V.int))) x (.ins C dx (putF "accepting" (.ref at_) (putF "initial" (.ref it) (putF "letters" (.int L) []))))) it ini := k3 _ _ nxi.symm t2
      generalize upd (upd H2 at_ (.tup (acc.map V.int))) x (.ins C dx (putF "accepting" (.ref at_) (putF "initial" (.ref it) (putF "letters" (.int L) [])))) = H3 at *
      have k03 : Kp x H' H3 := (k1.trans k2).trans k3
      have hL3 : LC H3 r as bss cu := ⟨k03 _ _ nrx hL.1, cub_kp (fun ys z => by rw [hx] at z; cases z) k03 hL.2⟩
      -- self.rows
      refine ⟨_, rfl, r, rfl, ⟨_, .of hL3.1⟩, fun D hD => lc_list (K := K) (a := r) (xs := as.map V.ref) (fun i H4 => ∃ (as2 : List Addr) (bss2 : List (List Addr)), Same H3 H4 ∧ H4 D = some (.lst (as2.map V.ref)) ∧ CubB .tup H4 as2 bss2 (cu.take i))
        ⟨[], [], same_new hD, upd_same, True.intro⟩ (fun i H' _ ⟨_, _, z, _⟩ => .of (z _ _ hL3.1)) ?_ ?_⟩
      · rintro i v H4 hi4 ⟨as2, bss2, s4, e4, C4⟩
        obtain ⟨a, haa, rfl⟩ := refs_get hi4
        obtain ⟨bs, row, hbs, hrow, hra, hR⟩ := cub_get hL3.2 haa
        have hil : i < cu.length := (List.getElem?_eq_some_iff.mp hrow).1
        have hbl : (bs.map V.ref).length = row.length := by rw [List.length_map, hR.len]
        have hrl := l2 row (List.mem_of_getElem? hrow)
        refine ⟨rfl, _, rfl, a, rfl, ⟨_, .of (s4 _ _ hra)⟩, fun E1 hE => lc_list (K := K) (a := a) (xs := bs.map V.ref) (fun j H5 => ∃ cs : List Addr, Same H4 H5 ∧ H5 E1 = some (.lst (cs.map V.ref)) ∧ RowsA .tup H5 cs (row.take j))
          ⟨[], same_new hE, upd_same, True.intro⟩ (fun i H' _ ⟨_, z, _⟩ => .of (z _ _ (s4 _ _ hra))) ?_ ?_⟩
        · rintro j v H5 hj ⟨cs, s5, e5, R5⟩
          obtain ⟨b, hb, rfl⟩ := refs_get hj
          obtain ⟨e, he, hbe⟩ := hR.get hb
          have hjl : j < row.length := (List.getElem?_eq_some_iff.mp he).1
          have cl := R5.len
          rw [List.length_take] at cl
          refine ⟨rfl, _, rfl, b, _, rfl, .inl ⟨.of (s5 _ _ (s4 _ _ hbe)), fun t ht => ?_⟩⟩
          have nEt : E1 ≠ t := fun z => by rw [z, ht] at e5; cases e5
          refine ⟨_, by rw [upd_ne nEt]; exact e5, by rw [List.length_map]; exact Nat.lt_of_le_of_lt (show cs.length ≤ 1000 by omega) (by decide), cs ++ [t], ?_, ?_, ?_⟩
          · intro c o hc
            rw [upd_ne (ne_of_none hc hE), upd_ne (ne_of_none (s5 _ _ hc) ht)]
            exact s5 _ _ hc
          · rw [upd_same, List.map_append]
            rfl
          · rw [take_get he]
            refine RowsA.snoc ?_ (rowsUpd (fun ys z => ?_) (R5.same (same_new ht)))
            · rw [upd_ne nEt.symm, upd_same]
            · rw [upd_ne nEt, e5] at z
              cases z
        · rintro H5 ⟨cs, s5, e5, R5⟩
          rw [hbl, List.take_length] at R5
          have cl := cub_len C4
          rw [List.length_take] at cl
          refine ⟨E1, _, rfl, .inl ⟨.of e5, fun t ht => ?_⟩⟩
          have e54 := s5 _ _ e4
          have nDt : D ≠ t := fun z => by rw [z, ht] at e54; cases e54
          refine ⟨_, by rw [upd_ne nDt]; exact e54, by rw [List.length_map]; exact Nat.lt_of_le_of_lt (show as2.length ≤ 1000 by omega) (by decide), as2 ++ [t], bss2 ++ [cs], ?_, ?_, ?_⟩
          · intro c o hc
            rw [upd_ne (ne_of_none hc hD), upd_ne (ne_of_none (s5 _ _ (s4 _ _ hc)) ht)]
            exact s5 _ _ (s4 _ _ hc)
          · rw [upd_same, List.map_append]
            rfl
          · rw [take_get hrow]
            have hD5 : ∀ ys, (upd H5 t (.tup (cs.map V.ref))) D ≠ some (.tup ys) := fun ys z => by
              rw [upd_ne nDt, e54] at z
              cases z
            refine cub_snoc ?_ (rowsUpd hD5 (R5.same (same_new ht))) (cub_tup hD5 (cub_same (s5.trans (same_new ht)) C4))
            rw [upd_ne nDt.symm, upd_same]
      · rintro H4 ⟨as2, bss2, s4, e4, C4⟩
        rw [hl2, List.take_length] at C4
        refine ⟨D, _, rfl, .inl ⟨.of e4, fun rt hrt => ?_⟩⟩
        have nxr : x ≠ rt := fun z => by
          have y := s4 _ _ x3
          rw [z, hrt] at y
          cases y
        have nir : it ≠ rt := fun z => by
          have y := s4 _ _ t23
          rw [z, hrt] at y
          cases y
        have nar : at_ ≠ rt := fun z => by
          have y := s4 _ _ t3
          rw [z, hrt] at y
          cases y
        have x4 : (upd H4 rt (.tup (as2.map V.ref))) x = some (.ins C dx (putF "accepting" (.ref at_) (putF "initial" (.ref it) (putF "letters" (.int L) [])))) := by
          rw [upd_ne nxr]
          exact s4 _ _ x3
        refine ⟨_, rfl, x, C, dx, _, rfl, x4, PC.cl, PC.nR, pl_lt (pl_next (pl_next (pl_next pl_0))) (by decide), q2 hv _ ?_ ⟨dx, it, at_, rt, as2, bss2, upd_same, ?_, ?_, ?_, ?_⟩⟩
        · intro b o nb hb
          rw [upd_ne nb, upd_ne (fun z => by have y := s4 _ _ (k03 _ _ nb hb); rw [z, hrt] at y; cases y)]
          exact s4 _ _ (k03 _ _ nb hb)
        · show _ = _
          rw [upd_ne nxi.symm, upd_ne nir]
          exact s4 _ _ t23
        · show _ = _
          rw [upd_ne nxa.symm, upd_ne nar]
          exact s4 _ _ t3
        · rw [upd_ne nxr.symm, upd_same]
        · exact cub_tup (fun ys z => by rw [x4] at z; cases z) (cub_same (same_new hrt) C4)
theorem asc_snoc {i : Nat} {xs : List Int} (h : Asc (i : Int) xs) : Asc ((i + 1 : Nat) : Int) (xs ++ [(0 : Int) + (i : Int)]) := by
  refine ⟨List.pairwise_append.mpr ⟨h.1, by simp, fun x hx y hy => ?_⟩, fun x hx => ?_⟩
  · rw [List.mem_singleton.mp hy]
    have := (h.2 x hx).2
    omega
  · rcases List.mem_append.mp hx with z | z
    · have := h.2 x z
      omega
    · rw [List.mem_singleton.mp z]
      omega
theorem asc_mono {n m : Int} {xs : List Int} (h : Asc n xs) (k : n ≤ m) : Asc m xs := ⟨h.1, fun x hx => by have := h.2 x hx; omega⟩
theorem asc_nil (n : Int) : Asc n [] := ⟨by simp, by simp⟩
def spAscd : Sp := fun vs H Q _ => ∃ (d : Addr) (n sh : Int), vs = [.ref d, .int n, .int sh] ∧ Drw H d ∧ 0 ≤ n ∧ n ≤ 1000 ∧
  ∀ (H' : Hp) (t : Addr) (xs : List Int), Kp d H H' → Drw H' d → H t = none → H' t = some (.lst (xs.map V.int)) → Asc n xs → (xs.length : Int) ≤ n → Q (.ref t) H'
theorem cal_ascd (T : Txt K mg) : C8.Cal P w K mg base 2 "_law_ascending" spAscd [] := by
  have C_law_take : C8.Cal P w K mg base 1 "_law_take" spTake [] := cal_take T
  obtain ⟨f, fd, F, hm, hb⟩ := T.h_law_ascending
  refine ⟨f, fd, _, [], F.ok sc_law_ascending (fun vs H Q E h => ?_) (fun cdv A outer s H vs Q E hr h => ?_), hm, F.kp, hb, .nil⟩
  · obtain ⟨d, n, sh, rfl, _⟩ := h
    rfl
  · obtain ⟨d, n, sh, rfl, hd, n0, n1, q⟩ := h
    refine ⟨_, (pss_one
      (ps_ret (pe_lc (own := [("k", 3)]) (g := gName 3) rfl sc_law_ascending.nd (pi_range1 (by rfl) T.z_range (pa_cons (pv 1) pa_nil)) (blkOk_by (N := N_law_ascending) (sc := defScope s_law_ascending) (by decide +kernel)) (fun _ _ _ _ _ => pg_name (i := 3) sc_law_ascending.nd rfl (Or.inl rfl)) (fun _ _ _ _ _ => (pts_one (pt_cmpR op_lt (C8.pe_c C_law_take hr (by decide) (by rfl) (pa_cons (pv 0) (pa_cons pe_int pa_nil))) (pv 2) (nomark _)))) (fun _ _ _ _ _ => (pv 3))))), ?_⟩
    refine ⟨_, rfl, _, rfl, by omega, by omega, fun D hD => ?_⟩
    have nDd : D ≠ d := fun z => by obtain ⟨o, y⟩ := hd; rw [← z, hD] at y; cases y
    refine lc_range (lo := 0) (n := n.toNat) (fun i H' => ∃ xs : List Int, Kp d H H' ∧ Drw H' d ∧ H' D = some (.lst (xs.map V.int)) ∧ Asc (i : Nat) xs ∧ xs.length ≤ i)
      ⟨[], Kp.new hD, hd.new hD, upd_same, asc_nil _, Nat.le_refl _⟩ ?_ ?_
    · rintro i H1 hi ⟨xs, k1, d1, e1, hA, xl⟩
      refine ⟨rfl, _, rfl, d, 10, rfl, d1, by decide, fun u us u0 u1 => ?_⟩
      have e2 : (upd H1 d (.lst (us.map V.int))) D = some (.lst (xs.map V.int)) := by rw [upd_ne nDd]; exact e1
      have k2 : Kp d H (upd H1 d (.lst (us.map V.int))) := k1.trans Kp.own
      have d2 : Drw (upd H1 d (.lst (us.map V.int))) d := Drw.own
      generalize upd H1 d (.lst (us.map V.int)) = H2 at *
      refine ⟨_, rfl, _, _, rfl, rfl, _, rfl, ite2 (fun c => ?_) (fun c => ⟨xs, k2, d2, e2, asc_mono hA (by omega), by omega⟩)⟩
      refine ⟨_, rfl, _, e2, lenI (by omega), xs ++ [(0 : Int) + (i : Int)], ?_, ?_, ?_, asc_snoc hA, by rw [List.length_append]; show xs.length + 1 ≤ i + 1; omega⟩
      · intro b o nb hb
        rw [upd_ne (ne_of_none hb hD)]
        exact k2 _ _ nb hb
      · obtain ⟨o, y⟩ := d2
        exact ⟨o, by rw [upd_ne nDd.symm]; exact y⟩
      · rw [upd_same, List.map_append]
        rfl
    · rintro H1 ⟨xs, k1, d1, e1, hA, xl⟩
      exact q H1 D xs k1 d1 hD e1 (asc_mono hA (by omega)) (by omega)
def spStates : Sp := fun vs H Q _ => ∃ (a : Addr) (xs : List Int) (n : Int), vs = [.ref a, .int n] ∧ TupI H a xs ∧ Asc n xs ∧ xs.length ≤ 100000 ∧ Q (.bl true) H
theorem cal_states (T : Txt K mg) : C8.Cal P w K mg base 3 "_law_states" spStates [] := by
  have C_law_integers : C8.Cal P w K mg base 2 "_law_integers" spInts [] := cal_ints T
  obtain ⟨f, fd, F, hm, hb⟩ := T.h_law_states
  refine ⟨f, fd, _, [], F.ok sc_law_states (fun vs H Q E h => ?_) (fun cdv A outer s H vs Q E hr h => ?_), hm, F.kp, hb, .nil⟩
  · obtain ⟨a, xs, n, rfl, _⟩ := h
    rfl
  · obtain ⟨a, xs, n, rfl, ht, hA, hl, q⟩ := h
    refine ⟨_, (pss_cons
      (ps_if (pt_not (pt_val (C8.pe_c C_law_integers hr (by decide) (by rfl) (pa_cons (pv 0) (pa_cons pe_int (pa_cons (pv 1) pa_nil)))))) (pss_one
      (ps_ret pe_bl)) pss_nil)
      (pss_cons
      (ps_for PassesOwn.never rfl (pi_range2 (by rfl) T.z_range (pa_cons pe_int (pa_cons (pe_callB (call_lenK (K := K) rfl) (by rfl) T.z_len PySem.boot_len (pa_cons (pv 0) pa_nil)) pa_nil))) (pg_name (i := 2) sc_law_states.nd rfl (.inl rfl)) (pss_one
      (ps_if (pt_cmpR op_ge (pe_ix (ix_tupK (K := K) rfl) (pv 0) (pe_op op_sub (pv 2) pe_int) (fun _ _ => rfl)) (pe_ix (ix_tupK (K := K) rfl) (pv 0) (pv 2) (fun _ _ => rfl)) (nomark _)) (pss_one
      (ps_ret pe_bl)) pss_nil)))
      (pss_one
      (ps_ret pe_bl)))), ?_⟩
    refine ⟨_, rfl, _, rfl, a, xs, 0, n, rfl, ht, hA.2, true, rfl, ?_⟩
    refine ⟨_, rfl, a, _, rfl, .inr (.of ht), _, _, rfl, (by rw [List.length_map]; omega), for_range (lo := 1) (n := ((((xs.map V.int).length : Nat) : Int) - 1).toNat) (fun i σ H' => ∃ v : Option V, σ = [some (.ref a), some (.int n), v] ∧ H' = H) ⟨none, rfl, rfl⟩ ?_ ?_⟩
    · rintro i σ H' hi ⟨v, rfl, rfl⟩
      rw [List.length_map] at hi
      have h1 : i < xs.length := by omega
      have h2 : i + 1 < xs.length := by omega
      have lt : lw xs i < lw xs (i + 1) := by
        have := (List.pairwise_iff_getElem.mp hA.1) i (i + 1) h1 h2 (Nat.lt_succ_self i)
        unfold lw
        rw [List.getD_eq_getElem?_getD, List.getElem?_eq_getElem h1, List.getD_eq_getElem?_getD, List.getElem?_eq_getElem h2]
        exact this
      have g1 : atI (xs.map V.int) (1 + (i : Int) - 1) = some (.int (lw xs i)) := by
        rw [show (1 : Int) + (i : Int) - 1 = ((i : Nat) : Int) by omega]
        exact atI_nat (at_map h1)
      have g2 : atI (xs.map V.int) (1 + (i : Int)) = some (.int (lw xs (i + 1))) := by
        rw [show (1 : Int) + (i : Int) = ((i + 1 : Nat) : Int) by omega]
        exact atI_nat (at_map h2)
      refine ⟨_, rfl, _, rfl, _, _, rfl, rfl, a, _, _, _, rfl, rfl, .of ht, g1, _, rfl, _, rfl, a, _, _, _, rfl, rfl, .of ht, g2, _, _, rfl, rfl, _, rfl, ite2 (fun c => ?_) (fun _ => ⟨_, rfl, rfl⟩)⟩
      have c := of_decide_eq_true c
      omega
    · rintro σ H' ⟨v, rfl, rfl⟩
      exact q
def spIsAut (C : Addr) : Sp := fun vs H Q _ => ∃ (x : Addr) (L : Int) (ini acc : List Int) (c : List (List (List Int))), vs = [.ref x, .int L] ∧ AutAt C H x L ini acc c ∧ VldB L ini acc c ∧ ini.length ≤ 1000 ∧ acc.length ≤ 1000 ∧ (∀ r ∈ c, ∀ e ∈ r, e.length ≤ 1000) ∧ Q (.bl true) H
theorem cal_isaut {C : Addr} (T : Txt K mg) (PC : AutC K C) : C8.Cal P w K mg base 4 "_law_is_automaton" (spIsAut C) [] := by
  have C_law_is_integer : C8.Cal P w K mg base 1 "_law_is_integer" spIsInt [] := cal_isint T
  have C_law_states : C8.Cal P w K mg base 3 "_law_states" spStates [] := cal_states T
  obtain ⟨f, fd, F, hm, hb⟩ := T.h_law_is_automaton
  refine ⟨f, fd, _, [], F.ok sc_law_is_automaton (fun vs H Q E h => ?_) (fun cdv A outer s H vs Q E hr h => ?_), hm, F.kp, hb, .nil⟩
  · obtain ⟨x, L, ini, acc, c, rfl, _⟩ := h
    rfl
  · obtain ⟨x, L, ini, acc, cu, rfl, hP, hv, m1, m2, m3, q⟩ := h
    refine ⟨_, (pss_cons
      (ps_if (PW.pt (pw_or (pt_not (pt_val (C8.pe_c C_law_is_integer hr (by decide) (by rfl) (pa_cons (pe_fld (pv 0) rfl) pa_nil)))) (pw_or1 (pt_cmpR op_ne (pe_fld (pv 0) rfl) (pv 1) (nomark _))))) (pss_one
      (ps_ret pe_bl)) pss_nil)
      (pss_cons
      (ps_if (PW.pt (pw_or (pt_not (pt_val (pe_callB (call_isiK' (K := K) rfl) (by rfl) T.z_isinstance (by decide +kernel) (pa_cons (pe_fld (pv 0) rfl) (pa_cons (pe_bltn (v := .ty "tuple") (by rfl) T.z_tuple (by decide +kernel) rfl) pa_nil))))) (pw_or1 (pt_cmpR op_eq (pe_callB (call_lenK (K := K) rfl) (by rfl) T.z_len PySem.boot_len (pa_cons (pe_fld (pv 0) rfl) pa_nil)) pe_int (nomark _))))) (pss_one
      (ps_ret pe_bl)) pss_nil)
      (pss_cons
      (ps_set (i := 2) sc_law_is_automaton.nd rfl (Or.inl rfl) (pe_callB (call_lenK (K := K) rfl) (by rfl) T.z_len PySem.boot_len (pa_cons (pe_fld (pv 0) rfl) pa_nil)))
      (pss_cons
      (ps_if (PW.pt (pw_or (pt_not (pt_val (C8.pe_c C_law_states hr (by decide) (by rfl) (pa_cons (pe_fld (pv 0) rfl) (pa_cons (pv 2) pa_nil))))) (pw_or1 (pt_not (pt_val (C8.pe_c C_law_states hr (by decide) (by rfl) (pa_cons (pe_fld (pv 0) rfl) (pa_cons (pv 2) pa_nil)))))))) (pss_one
      (ps_ret pe_bl)) pss_nil)
      (pss_cons
      (ps_for PassesOwn.never rfl (pi_tup (pe_fld (pv 0) rfl)) (pg_name (i := 3) sc_law_is_automaton.nd rfl (.inl rfl)) (pss_cons
      (ps_if (PW.pt (pw_or (pt_not (pt_val (pe_callB (call_isiK' (K := K) rfl) (by rfl) T.z_isinstance (by decide +kernel) (pa_cons (pv 3) (pa_cons (pe_bltn (v := .ty "tuple") (by rfl) T.z_tuple (by decide +kernel) rfl) pa_nil))))) (pw_or1 (pt_cmpR op_ne (pe_callB (call_lenK (K := K) rfl) (by rfl) T.z_len PySem.boot_len (pa_cons (pv 3) pa_nil)) (pv 1) (nomark _))))) (pss_one
      (ps_ret pe_bl)) pss_nil)
      (pss_one
      (ps_for PassesOwn.never rfl (pi_tup (pv 3)) (pg_name (i := 4) sc_law_is_automaton.nd rfl (.inl rfl)) (pss_one
      (ps_if (pt_not (pt_val (C8.pe_c C_law_states hr (by decide) (by rfl) (pa_cons (pv 4) (pa_cons (pv 2) pa_nil))))) (pss_one
      (ps_ret pe_bl)) pss_nil))))))
      (pss_one
      (ps_ret pe_bl))))))), ?_⟩
    obtain ⟨dx, it, at_, rt, as, bss, e1, e2, e3, e4, e5⟩ := id hP
    have hl2 : (as.map V.ref).length = cu.length := by rw [List.length_map, (cub_len e5).1]
    have hn : 0 < cu.length := List.length_pos_iff.mpr hv.2.1
    obtain ⟨v1, v2, v3, v4, v5⟩ := id hv
    refine ⟨_, rfl, x, C, dx, _, _, rfl, e1, PC.cl, PC.nL, bf_L _ _ _ _, L, rfl, true, rfl, ?_⟩
    refine ⟨_, rfl, x, C, dx, _, _, rfl, e1, PC.cl, PC.nL, bf_L _ _ _ _, _, rfl, rfl, _, rfl, ite_ne (fun c => absurd rfl c) (fun _ => ?_)⟩
    refine ⟨_, rfl, x, C, dx, _, _, rfl, e1, PC.cl, PC.nR, bf_r _ _ _ _, _, _, _, _, true, rfl, .ty "tuple", .base (.tup e4), kit_ty (by decide +kernel), true, rfl, ?_⟩
    refine ⟨_, rfl, x, C, dx, _, _, rfl, e1, PC.cl, PC.nR, bf_r _ _ _ _, rt, _, rfl, .inr (.of e4), rfl, _, rfl, ite_eq (fun c => absurd c (by rw [hl2]; omega)) (fun _ => ?_)⟩
    refine ⟨_, rfl, x, C, dx, _, _, rfl, e1, PC.cl, PC.nR, bf_r _ _ _ _, rt, _, rfl, .inr (.of e4), ?_⟩
    rw [hl2]
    refine ⟨_, rfl, x, C, dx, _, _, rfl, e1, PC.cl, PC.nI, bf_i _ _ _ _, _, rfl, it, ini, _, rfl, e2, v3, by omega, true, rfl, ?_⟩
    refine ⟨_, rfl, x, C, dx, _, _, rfl, e1, PC.cl, PC.nA, bf_a _ _ _ _, _, rfl, at_, acc, _, rfl, e3, v4, by omega, true, rfl, ?_⟩
    refine ⟨_, rfl, x, C, dx, _, _, rfl, e1, PC.cl, PC.nR, bf_r _ _ _ _, rt, rfl, ⟨_, .of e4⟩, for_tup (K := K) (a := rt) (xs := as.map V.ref) (fun i σ H2 => ∃ v u : Option V, σ = [some (.ref x), some (.int L), some (.int cu.length), v, u] ∧ H2 = H) ⟨none, none, rfl, rfl⟩ (fun i σ H2 _ ⟨_, _, _, e⟩ => by rw [e]; exact .of e4) ?_ ?_⟩
    · rintro i y σ H2 hi ⟨v, u, rfl, rfl⟩
      obtain ⟨a, ha, rfl⟩ := refs_get hi
      obtain ⟨bs, row, hbs, hrow, hra, hR⟩ := cub_get e5 ha
      have hmem := List.mem_of_getElem? hrow
      have hbl : (bs.map V.ref).length = row.length := by rw [List.length_map, hR.len]
      obtain ⟨c1, c2⟩ := v5 row hmem
      refine ⟨_, rfl, _, _, _, _, true, rfl, .ty "tuple", .base (.tup hra), kit_ty (by decide +kernel), true, rfl, ?_⟩
      refine ⟨_, rfl, a, _, rfl, .inr (.of hra), _, rfl, rfl, _, rfl, ite_ne (fun c => absurd (by rw [hbl]; exact c1) c) (fun _ => ?_)⟩
      refine ⟨_, rfl, a, rfl, ⟨_, .of hra⟩, for_tup (K := K) (a := a) (xs := bs.map V.ref) (fun i σ H3 => ∃ u : Option V, σ = [some (.ref x), some (.int L), some (.int cu.length), some (.ref a), u] ∧ H3 = H2) ⟨u, rfl, rfl⟩ (fun i σ H3 _ ⟨_, _, e⟩ => by rw [e]; exact .of hra) ?_ ?_⟩
      · rintro j y σ H3 hj ⟨u, rfl, rfl⟩
        obtain ⟨b, hb, rfl⟩ := refs_get hj
        obtain ⟨e, he, hbe⟩ := hR.get hb
        exact ⟨_, rfl, _, rfl, b, e, _, rfl, hbe, c2 e (List.mem_of_getElem? he), by have := m3 row hmem e (List.mem_of_getElem? he); omega, true, rfl, ⟨_, rfl, rfl⟩⟩
      · rintro σ H3 ⟨u, rfl, rfl⟩
        exact ⟨_, _, rfl, rfl⟩
    · rintro σ H2 ⟨v, u, rfl, rfl⟩
      exact q
def spAutOut (C : Addr) : Sp := fun vs H Q _ => ∃ (i a r : Addr) (L : Int) (ini acc : List Int) (as : List Addr) (bss : List (List Addr)) (c : List (List (List Int))), vs = [.int L, .ref i, .ref a, .ref r] ∧ H i = some (.lst (ini.map V.int)) ∧ H a = some (.lst (acc.map V.int)) ∧ LC H r as bss c ∧ c.length ≤ 1000 ∧ (∀ r ∈ c, r.length ≤ 1000) ∧
  ∀ (v : V) (H' : Hp), Same H H' → ((¬ VldB L ini acc c ∧ v = .non) ∨ (VldB L ini acc c ∧ ∃ x, v = .ref x ∧ AutAt C H' x L ini acc c)) → Q v H'
theorem lc_same {H H' : Hp} {r : Addr} {as : List Addr} {bss : List (List Addr)} {c : List (List (List Int))} (s : Same H H') (h : LC H r as bss c) : LC H' r as bss c := ⟨s _ _ h.1, cub_same s h.2⟩
theorem cal_autout {cS cI C fI : Addr} {fdI : FuncData} (T : Txt K mg) (eI : ErrC K mg "InvalidAutomaton" cI) (PC : AutC K C) (hM : Mk K C fI) (gC : mg "Automaton" = some (.ref C)) (F0 : L2.Fun K "__init__" "Automaton.__init__" s_Automaton_init fI fdI) (hB : Binds K fdI ["self", "letters", "initial", "accepting", "rows"] [])
    (gS : mg "SynthError" = some (.ref cS)) (kS : PySem.W.kitOne K (.ref cI) (.ref cS) = some true) : C8.Cal P w K mg base 4 "_law_outcome" (spAutOut C) [] := by
  have MK : MakX P w K mg base 2 "Automaton" C (spInitB C cI) := ⟨fI, fdI, _, hM, ok_initB T eI PC F0, gC, hB⟩
  obtain ⟨f, fd, F, hm, hb⟩ := T.h_law_outcome
  refine ⟨f, fd, _, [], F.ok sc_law_outcome (fun vs H Q E h => ?_) (fun cdv A outer s H vs Q E hr h => ?_), hm, F.kp, hb, .nil⟩
  · obtain ⟨i, a, r, L, ini, acc, as, bss, c, rfl, _⟩ := h
    rfl
  · obtain ⟨i, a, r, L, ini, acc, as, bss, cu, rfl, hi, ha, hL, b1, b2, q⟩ := h
    refine ⟨_, (pss_cons
      (ps_try_as (i := 4) rfl rfl sc_law_outcome.nd rfl rfl ⟨rfl, by decide, .inl eI.g⟩ takes0 (fun W pn xe tk _ => (pss_one (ps_ret (pe_makeX MK hr (by decide) tk (by rfl) (pa_cons (pv 0) (pa_cons (pv 1) (pa_cons (pv 2) (pa_cons (pv 3) pa_nil)))))))) (fun a oe cls d pn hz hf => (pss_one
      (ps_if (pt_val (pe_callB (call_isEx (K := K) rfl hz hf) (by rfl) T.z_isinstance (by decide +kernel) (pa_cons (pv 4) (pa_cons (pe_glob (v := .ref cS) (by rfl) gS rfl) pa_nil)))) (pss_one
      (ps_ret pe_non)) pss_nil))))
      (pss_one
      (ps_ret pe_int))), ?_⟩
    refine ⟨_, rfl, _, rfl, _, rfl, _, rfl, fun y dy hy hdy hne => ?_⟩
    have s3 := same_fresh (C := C) hy hdy
    refine ⟨y, i, a, r, dy, L, ini, acc, as, bss, cu, rfl, upd_same, s3 _ _ hi, s3 _ _ ha, lc_same s3 hL, b1, b2, fun c => ?_, fun c H3 k3 P3 => ⟨rfl, ?_⟩⟩
    · refine ⟨true, eI.me, fun _ x hx => ?_, fun z => by cases z⟩
      refine ⟨_, rfl, cI, rfl, rfl, eI.ec, .ref cS, .ref cS, true, rfl, fun u hu => hu, kS, true, rfl, iteT ?_⟩
      exact q _ _ s3 (.inl ⟨c, rfl⟩)
    · exact q _ _ (same_made hy hdy k3) (.inr ⟨c, y, rfl, P3⟩)
def CpyC (H H' : Hp) (D : Addr) (as : List Addr) (bss : List (List Addr)) (c : List (List (List Int))) : Prop := Same H H' ∧ LC H' D as bss c ∧ (∀ b ∈ as, H b = none) ∧ H D = none ∧ ∀ b, (b ∈ as ∨ ∃ bs ∈ bss, b ∈ bs) → b ≠ D
theorem cpyc_zero {H : Hp} {D : Addr} (hD : H D = none) : CpyC H (upd H D (.lst [])) D [] [] [] := ⟨same_new hD, ⟨upd_same, True.intro⟩, by simp, hD, fun b hb => by simp at hb⟩
theorem cpyc_step {H H4 H5 : Hp} {D E1 : Addr} {as bs : List Addr} {bss : List (List Addr)} {c : List (List (List Int))} {row : List (List Int)} (h : CpyC H H4 D as bss c) (g : Cpy H4 H5 E1 bs row) :
    H5 D = some (.lst (as.map V.ref)) ∧ CpyC H (upd H5 D (.lst ((as ++ [E1]).map V.ref))) D (as ++ [E1]) (bss ++ [bs]) (c ++ [row]) := by
  obtain ⟨s1, ⟨e1, C1⟩, n1, d1, m1⟩ := h
  obtain ⟨s2, ⟨e2, R2⟩, n2, d2, m2⟩ := g
  have nDE : E1 ≠ D := fun z => by rw [← z, d2] at e1; cases e1
  have nbD : ∀ b ∈ bs, b ≠ D := fun b hb z => by have := n2 b hb; rw [z, e1] at this; cases this
  refine ⟨s2 _ _ e1, fun b o hb => ?_, ⟨upd_same, ?_⟩, fun b hb => ?_, d1, fun b hb => ?_⟩
  · rw [upd_ne (ne_of_none hb d1)]
    exact s2 _ _ (s1 _ _ hb)
  · refine cub_snoc ?_ (R2.keep fun b o hb h => by rw [upd_ne (nbD b hb)]; exact h) (cub_keep (fun b o hb h => by rw [upd_ne (m1 b hb)]; exact h) (cub_same s2 C1))
    rw [upd_ne nDE]
    exact e2
  · rcases List.mem_append.mp hb with z | z
    · exact n1 b z
    · rw [List.mem_singleton.mp z]
      exact s1.free d2
  · rcases hb with z | ⟨q, z, y⟩
    · rcases List.mem_append.mp z with u | u
      · exact m1 b (.inl u)
      · rw [List.mem_singleton.mp u]
        exact nDE
    · rcases List.mem_append.mp z with u | u
      · exact m1 b (.inr ⟨q, u, y⟩)
      · rw [List.mem_singleton.mp u] at y
        exact nbD b y
def spCopy : Sp := fun vs H Q _ => ∃ (r : Addr) (as : List Addr) (bss : List (List Addr)) (c : List (List (List Int))), vs = [.ref r] ∧ LC H r as bss c ∧ c.length ≤ 1000 ∧ (∀ q ∈ c, q.length ≤ 1000) ∧ ∀ (H' : Hp) (r' : Addr) (as' : List Addr) (bss' : List (List Addr)), CpyC H H' r' as' bss' c → Q (.ref r') H'
theorem cal_copy (T : Txt K mg) : C8.Cal P w K mg base 1 "_law_copy" spCopy [] := by
  obtain ⟨f, fd, F, hm, hb⟩ := T.h_law_copy
  refine ⟨f, fd, _, [], F.ok sc_law_copy (fun vs H Q E h => ?_) (fun cdv A outer s H vs Q E hr h => ?_), hm, F.kp, hb, .nil⟩
  · obtain ⟨r, as, bss, c, rfl, _⟩ := h
    rfl
  · obtain ⟨r, as, bss, cu, rfl, hL, b1, b2, q⟩ := h
    refine ⟨_, (pss_one
      (ps_ret (pe_lc (own := [("row", 1)]) (g := gName 1) (tt := tYes) rfl sc_law_copy.nd (pi_list (pv 0)) (blkOk_by (N := N_law_copy) (sc := defScope s_law_copy) (by decide +kernel)) (fun _ _ _ _ _ => pg_name (i := 1) sc_law_copy.nd rfl (Or.inl rfl)) (fun _ _ _ _ _ => pts_nil) (fun _ _ _ _ _ => (pe_lc (own := [("entry", 2)]) (g := gName 2) (tt := tYes) rfl sc_law_copy.nd (pi_listK (K := K) rfl (pv 1)) (blkOk_by (N := N_law_copy) (sc := stS (defScope s_law_copy) 0 (defBody s_law_copy)) (by decide +kernel)) (fun _ _ _ _ _ => pg_name (i := 2) sc_law_copy.nd rfl (Or.inl rfl)) (fun _ _ _ _ _ => pts_nil) (fun _ _ _ _ _ => (pe_callTy (call_list_ofK (K := K) rfl) (by rfl) T.z_list (by decide +kernel) (pa_cons (pv 2) pa_nil)))))))), ?_⟩
    have hl2 : (as.map V.ref).length = cu.length := by rw [List.length_map, (cub_len hL.2).1]
    refine ⟨_, rfl, r, rfl, ⟨_, .of hL.1⟩, fun D hD => lc_list (K := K) (a := r) (xs := as.map V.ref) (fun i H4 => ∃ (as2 : List Addr) (bss2 : List (List Addr)), CpyC H H4 D as2 bss2 (cu.take i))
      ⟨[], [], cpyc_zero hD⟩ (fun i H' _ ⟨_, _, z⟩ => .of (z.1 _ _ hL.1)) ?_ ?_⟩
    · rintro i v H4 hi4 ⟨as2, bss2, C4⟩
      obtain ⟨a, haa, rfl⟩ := refs_get hi4
      obtain ⟨bs, row, hbs, hrow, hra, hR⟩ := cub_get hL.2 haa
      have hil : i < cu.length := (List.getElem?_eq_some_iff.mp hrow).1
      have hbl : (bs.map V.ref).length = row.length := by rw [List.length_map, hR.len]
      have hrl := b2 row (List.mem_of_getElem? hrow)
      refine ⟨rfl, _, rfl, a, rfl, ⟨_, .of (C4.1 _ _ hra)⟩, fun E1 hE => lc_list (K := K) (a := a) (xs := bs.map V.ref) (fun j H5 => ∃ cs : List Addr, Cpy H4 H5 E1 cs (row.take j))
        ⟨[], cpy_zero hE⟩ (fun i H' _ ⟨_, z⟩ => .of (z.1 _ _ (C4.1 _ _ hra))) ?_ ?_⟩
      · rintro j v H5 hj ⟨cs, c5⟩
        obtain ⟨b, hb, rfl⟩ := refs_get hj
        obtain ⟨e, he, hbe⟩ := hR.get hb
        have hjl : j < row.length := (List.getElem?_eq_some_iff.mp he).1
        have cl := c5.2.1.2.len
        rw [List.length_take] at cl
        have nE : ∀ t, H5 t = none → E1 ≠ t := fun t ht z => by
          have := c5.2.1.1
          rw [z, ht] at this
          cases this
        refine ⟨rfl, _, rfl, b, _, rfl, .inl (.of (c5.1 _ _ (C4.1 _ _ hbe))), fun t ht => ⟨_, by rw [upd_ne (nE t ht)]; exact c5.2.1.1, by rw [List.length_map]; exact Nat.lt_of_le_of_lt (show cs.length ≤ 1000 by omega) (by decide), cs ++ [t], ?_⟩⟩
        rw [take_get he]
        have := cpy_step (row := e) c5 ht
        rw [List.map_append] at this
        exact this
      · rintro H5 ⟨cs, c5⟩
        rw [hbl, List.take_length] at c5
        have cl := cub_len C4.2.1.2
        rw [List.length_take] at cl
        obtain ⟨g1, g2⟩ := cpyc_step C4 c5
        rw [List.map_append] at g2
        rw [take_get hrow]
        exact ⟨_, g1, by rw [List.length_map]; exact Nat.lt_of_le_of_lt (show as2.length ≤ 1000 by omega) (by decide), as2 ++ [E1], bss2 ++ [cs], g2⟩
    · rintro H4 ⟨as2, bss2, C4⟩
      rw [hl2, List.take_length] at C4
      exact q _ _ _ _ C4
/-! what the law draws -/
def GdB (d ii aa r : Addr) (as : List Addr) (bss : List (List Addr)) : Prop := d ≠ ii ∧ d ≠ aa ∧ d ≠ r ∧ (∀ b, (b ∈ as ∨ ∃ bs ∈ bss, b ∈ bs) → b ≠ d) ∧ as.Nodup ∧ r ∉ as ∧ ∀ bs ∈ bss, r ∉ bs
def spAut : Sp := fun vs H Q _ => ∃ (d : Addr) (L : Int) (m : Nat), vs = [.ref d, .int L, .int m] ∧ Drw H d ∧ 1 ≤ L ∧ L ≤ 100 ∧ 1 ≤ m ∧ m ≤ 100 ∧
  ∀ (H' : Hp) (t ii aa r : Addr) (as : List Addr) (bss : List (List Addr)) (ini acc : List Int) (c : List (List (List Int))), Kp d H H' → Drw H' d → H' t = some (.tup [.ref ii, .ref aa, .ref r]) → H' ii = some (.lst (ini.map V.int)) → H' aa = some (.lst (acc.map V.int)) → LC H' r as bss c → GdB d ii aa r as bss → VldB L ini acc c → c.length ≤ m →
    ini.length ≤ 100 → acc.length ≤ 100 → (∀ q ∈ c, ∀ e ∈ q, e.length ≤ 100) → Q (.ref t) H'
theorem cal_aut (T : Txt K mg) : C8.Cal P w K mg base 3 "_law_automaton" spAut [] := by
  have C_law_take : C8.Cal P w K mg base 1 "_law_take" spTake [] := cal_take T
  have C_law_ascending : C8.Cal P w K mg base 2 "_law_ascending" spAscd [] := cal_ascd T
  obtain ⟨f, fd, F, hm, hb⟩ := T.h_law_automaton
  refine ⟨f, fd, _, [], F.ok sc_law_automaton (fun vs H Q E h => ?_) (fun cdv A outer s H vs Q E hr h => ?_), hm, F.kp, hb, .nil⟩
  · obtain ⟨d, L, m, rfl, _⟩ := h
    rfl
  · obtain ⟨d, L, m, rfl, hd, L1, L2, m1, m2, q⟩ := h
    refine ⟨_, (pss_cons
      (ps_set (i := 3) sc_law_automaton.nd rfl (Or.inr rfl) (pe_op op_add pe_int (C8.pe_c C_law_take hr (by decide) (by rfl) (pa_cons (pv 0) (pa_cons (pv 2) pa_nil)))))
      (pss_cons
      (ps_set (i := 4) sc_law_automaton.nd rfl (Or.inr rfl) (pe_op op_add pe_int (C8.pe_c C_law_take hr (by decide) (by rfl) (pa_cons (pv 0) (pa_cons pe_int pa_nil)))))
      (pss_cons
      (ps_set (i := 5) sc_law_automaton.nd rfl (Or.inl rfl) (C8.pe_c C_law_ascending hr (by decide) (by rfl) (pa_cons (pv 0) (pa_cons (pv 3) (pa_cons pe_int pa_nil)))))
      (pss_cons
      (ps_set (i := 6) sc_law_automaton.nd rfl (Or.inl rfl) (C8.pe_c C_law_ascending hr (by decide) (by rfl) (pa_cons (pv 0) (pa_cons (pv 3) (pa_cons pe_int pa_nil)))))
      (C8.pss_cut
      (ps_if (PW.pt (pw_and (pt_cmpR op_eq (pe_callB (call_lenK (K := K) rfl) (by rfl) T.z_len PySem.boot_len (pa_cons (pv 5) pa_nil)) pe_int (nomark _)) (pw_and1 (pt_cmpR op_gt (C8.pe_c C_law_take hr (by decide) (by rfl) (pa_cons (pv 0) (pa_cons pe_int pa_nil))) pe_int (nomark _))))) (pss_one
      (ps_set (i := 5) sc_law_automaton.nd rfl (Or.inl rfl) (pe_lst (pa_cons pe_int pa_nil)))) pss_nil)
      (pss_cons
      (ps_set (i := 7) sc_law_automaton.nd rfl (Or.inl rfl) (pe_lst pa_nil))
      (pss_cons
      (ps_for PassesOwn.never rfl (pi_range1 (by rfl) T.z_range (pa_cons (pv 3) pa_nil)) (pg_name (i := 8) sc_law_automaton.nd rfl (.inl rfl)) (pss_one
      (ps_expr (pe_bm PySem.F.plainAttrs_list PySem.F.slot_list_append PySem.F.type_list_append mt_append (pv 7) (pa_cons (pe_lc (own := [("letter", 9)]) (g := gName 9) (tt := tYes) rfl sc_law_automaton.nd (pi_range1 (by rfl) T.z_range (pa_cons (pv 1) pa_nil)) (blkOk_by (N := N_law_automaton) (sc := defScope s_law_automaton) (by decide +kernel)) (fun _ _ _ _ _ => pg_name (i := 9) sc_law_automaton.nd rfl (Or.inl rfl)) (fun _ _ _ _ _ => pts_nil) (fun _ _ _ _ _ => (C8.pe_c C_law_ascending hr (by decide) (by rfl) (pa_cons (pv 0) (pa_cons (pv 3) (pa_cons (pv 4) pa_nil)))))) pa_nil)))))
      (pss_one
      (ps_ret (pe_tup (pa_cons (pv 5) (pa_cons (pv 6) (pa_cons (pv 7) pa_nil))))))))))))), ?_⟩
    refine ⟨_, rfl, _, rfl, d, m, rfl, hd, by omega, fun c ds c0 c1 => ?_⟩
    have k1 : Kp d H (upd H d (.lst (ds.map V.int))) := Kp.own
    have d1 : Drw (upd H d (.lst (ds.map V.int))) d := Drw.own
    generalize upd H d (.lst (ds.map V.int)) = H1 at *
    refine ⟨_, _, rfl, rfl, ?_⟩
    refine ⟨_, rfl, d, 4, rfl, d1, by decide, fun sh ds2 t0 t1 => ?_⟩
    have k2 : Kp d H (upd H1 d (.lst (ds2.map V.int))) := k1.trans Kp.own
    have d2 : Drw (upd H1 d (.lst (ds2.map V.int))) d := Drw.own
    generalize upd H1 d (.lst (ds2.map V.int)) = H2 at *
    clear d1 k1
    refine ⟨_, _, rfl, rfl, ?_⟩
    refine ⟨_, rfl, _, rfl, d, 1 + c, 5, rfl, d2, by omega, by omega, fun H3 ii ini k3 d3 fi ei hi li => ?_⟩
    have ndi : d ≠ ii := fun z => by obtain ⟨o, y⟩ := d2; rw [z, fi] at y; cases y
    refine ⟨_, rfl, _, rfl, d, 1 + c, 5, rfl, d3, by omega, by omega, fun H4 aa acc k4 d4 fa ea ha la => ?_⟩
    have nda : d ≠ aa := fun z => by obtain ⟨o, y⟩ := d3; rw [z, fa] at y; cases y
    have ei4 := hp_kp k4 ndi ei
    have k04 := (k2.trans k3).trans k4
    clear k2 k3 k4 d2 d3 ei fi fa
    refine ⟨fun σ H5 => ∃ (ii : Addr) (ini : List Int), σ = [some (.ref d), some (.int L), some (.int m), some (.int (1 + c)), some (.int (2 + sh)), some (.ref ii), some (.ref aa), none, none, none] ∧ Kp d H H5 ∧ Drw H5 d ∧ d ≠ ii ∧ H5 ii = some (.lst (ini.map V.int)) ∧ Asc (1 + c) ini ∧ ini.length ≤ 100 ∧ H5 aa = some (.lst (acc.map V.int)), ?_, ?_⟩
    · refine ⟨_, rfl, ii, _, rfl, .inl (.of ei4), rfl, _, rfl, ite_eq (fun c3 => ?_) (fun c3 => ⟨ii, ini, rfl, k04, d4, ndi, ei4, hi, by omega, ea⟩)⟩
      refine ⟨_, rfl, d, 4, rfl, d4, by decide, fun u us u0 u1 => ?_⟩
      have k5 : Kp d H (upd H4 d (.lst (us.map V.int))) := k04.trans Kp.own
      have d5 : Drw (upd H4 d (.lst (us.map V.int))) d := Drw.own
      have ei5 := hp_kp (Kp.own (o := .lst (us.map V.int))) ndi ei4
      have ea5 := hp_kp (Kp.own (o := .lst (us.map V.int))) nda ea
      generalize upd H4 d (.lst (us.map V.int)) = H5 at *
      refine ⟨_, _, rfl, rfl, _, rfl, ite2 (fun c4 => ?_) (fun c4 => ⟨ii, ini, rfl, k5, d5, ndi, ei5, hi, by omega, ea5⟩)⟩
      refine ⟨by show 1 ≤ sizeLine; decide, fun t ht => ?_⟩
      have ndt : d ≠ t := fun z => by obtain ⟨o, y⟩ := d5; rw [z, ht] at y; cases y
      exact ⟨t, [0], rfl, k5.trans (Kp.new ht), d5.new ht, ndt, upd_same, ⟨by simp, fun x hx => by rw [List.mem_singleton.mp hx]; omega⟩, by simp, same_new ht _ _ ea5⟩
    · clear ei4 ea d4 k04 ndi hi li
      rintro σ H5 ⟨ii, ini, rfl, k5, d5, ndi, ei, hi, li, ea⟩
      obtain ⟨n, hn⟩ : ∃ n : Nat, n = (1 + c).toNat := ⟨_, rfl⟩
      have en : (n : Int) = 1 + c := by omega
      refine ⟨Nat.zero_le _, fun r hr0 => ?_⟩
      have nrd : r ≠ d := fun z => by obtain ⟨o, y⟩ := d5; rw [← z, hr0] at y; cases y
      have nir : ii ≠ r := fun z => by rw [z, hr0] at ei; cases ei
      have nar : aa ≠ r := fun z => by rw [z, hr0] at ea; cases ea
      refine ⟨_, rfl, _, rfl, by omega, by omega, for_range (lo := 0) (n := (1 + c).toNat) (fun i σ H' => ∃ (as : List Addr) (bss : List (List Addr)) (cu : List (List (List Int))) (v8 : Option V), σ = [some (.ref d), some (.int L), some (.int m), some (.int (1 + c)), some (.int (2 + sh)), some (.ref ii), some (.ref aa), some (.ref r), v8, none] ∧
          Kp d H5 H' ∧ Drw H' d ∧ LC H' r as bss cu ∧ cu.length = i ∧ (∀ q ∈ cu, (q.length : Int) = L ∧ ∀ e ∈ q, Asc (1 + c) e ∧ e.length ≤ 100) ∧ as.Nodup ∧ (∀ b, (b ∈ as ∨ ∃ bs ∈ bss, b ∈ bs) → b ≠ d ∧ b ≠ r))
        ⟨[], [], [], none, rfl, Kp.new hr0, d5.new hr0, ⟨upd_same, True.intro⟩, rfl, by simp, List.nodup_nil, fun b hb => by simp at hb⟩ ?_ ?_⟩
      · rintro i σ H6 hi6 ⟨as, bss, cu, v8, rfl, k6, d6, L6, cl, hcu, nd, nn⟩
        refine ⟨_, rfl, .inl ⟨rfl, _, .of L6.1⟩, _, rfl, _, rfl, by omega, by omega, fun E1 hE => ?_⟩
        have nEd : E1 ≠ d := fun z => by obtain ⟨o, y⟩ := d6; rw [← z, hE] at y; cases y
        refine lc_range (lo := 0) (n := L.toNat) (fun j H' => ∃ (bs : List Addr) (es : List (List Int)), Kp d H6 H' ∧ Drw H' d ∧ H' E1 = some (.lst (bs.map V.ref)) ∧ RowsA .lst H' bs es ∧ es.length = j ∧ (∀ e ∈ es, Asc (1 + c) e ∧ e.length ≤ 100) ∧ ∀ b ∈ bs, b ≠ E1 ∧ b ≠ d ∧ b ≠ r)
          ⟨[], [], Kp.new hE, d6.new hE, upd_same, True.intro, rfl, by simp, by simp⟩ ?_ ?_
        · rintro j H7 hj ⟨bs, es, k7, d7, e7, R7, el, hes, nb⟩
          refine ⟨rfl, _, rfl, _, rfl, _, rfl, d, 1 + c, 2 + sh, rfl, d7, by omega, by omega, fun H8 t ys k8 d8 ft et hA yl => ?_⟩
          have ntE : t ≠ E1 := fun z => by rw [← z, ft] at e7; cases e7
          have ntd : t ≠ d := fun z => by obtain ⟨o, y⟩ := d7; rw [← z, ft] at y; cases y
          have ntr : t ≠ r := fun z => by have := k7 _ _ nrd L6.1; rw [← z, ft] at this; cases this
          have bl := R7.len
          refine ⟨_, k8 _ _ nEd e7, by rw [List.length_map]; exact Nat.lt_of_le_of_lt (show bs.length ≤ 1000 by omega) (by decide), bs ++ [t], es ++ [ys], ?_, ?_, ?_, ?_, by simp [el], ?_, ?_⟩
          · intro b o nb hb
            rw [upd_ne (ne_of_none hb hE)]
            exact k8 _ _ nb (k7 _ _ nb hb)
          · obtain ⟨o, y⟩ := d8
            exact ⟨o, by rw [upd_ne nEd.symm]; exact y⟩
          · rw [upd_same, List.map_append]
            rfl
          · refine RowsA.snoc ?_ (R7.keep fun b o hb h => ?_)
            · rw [upd_ne ntE]
              exact et
            · rw [upd_ne (nb b hb).1]
              exact k8 _ _ (nb b hb).2.1 h
          · intro e he
            rcases List.mem_append.mp he with z | z
            · exact hes e z
            · rw [List.mem_singleton.mp z]
              exact ⟨hA, by omega⟩
          · intro b hb
            rcases List.mem_append.mp hb with z | z
            · exact nb b z
            · rw [List.mem_singleton.mp z]
              exact ⟨ntE, ntd, ntr⟩
        · rintro H7 ⟨bs, es, k7, d7, e7, R7, el, hes, nb⟩
          have nrE : E1 ≠ r := fun z => by have := L6.1; rw [← z, hE] at this; cases this
          have nEa : E1 ∉ as := fun z => by
            obtain ⟨o, y⟩ := cub_some L6.2 (.inl z)
            rw [hE] at y
            cases y
          have bl := (cub_len L6.2).1
          refine ⟨r, _, _, rfl, rfl, k7 _ _ nrd L6.1, by rw [List.length_map]; exact Nat.lt_of_le_of_lt (show as.length ≤ 1000 by omega) (by decide), ?_⟩
          refine ⟨as ++ [E1], bss ++ [bs], cu ++ [es], _, rfl, ?_, ?_, ⟨?_, ?_⟩, by simp [cl], ?_, ?_, ?_⟩
          · intro b o nb hb
            rw [upd_ne (ne_of_none hb hr0)]
            exact k7 _ _ nb (k6 _ _ nb hb)
          · obtain ⟨o, y⟩ := d7
            exact ⟨o, by rw [upd_ne nrd.symm]; exact y⟩
          · rw [upd_same, List.map_append]
            rfl
          · refine cub_snoc ?_ (R7.keep fun b o hb h => by rw [upd_ne (nb b hb).2.2]; exact h) (cub_keep (fun b o hb h => ?_) L6.2)
            · rw [upd_ne nrE]
              exact e7
            · rw [upd_ne (nn b hb).2]
              exact k7 _ _ (nn b hb).1 h
          · intro q hq
            rcases List.mem_append.mp hq with z | z
            · exact hcu q z
            · rw [List.mem_singleton.mp z]
              exact ⟨by omega, hes⟩
          · refine List.nodup_append.mpr ⟨nd, by simp, fun a ha b hb => ?_⟩
            rw [List.mem_singleton.mp hb]
            exact fun z => nEa (by rw [← z]; exact ha)
          · intro b hb
            rcases hb with z | ⟨q, z, y⟩
            · rcases List.mem_append.mp z with u | u
              · exact nn b (.inl u)
              · rw [List.mem_singleton.mp u]
                exact ⟨nEd, nrE⟩
            · rcases List.mem_append.mp z with u | u
              · exact nn b (.inr ⟨q, u, y⟩)
              · rw [List.mem_singleton.mp u] at y
                exact ⟨(nb b y).2.1, (nb b y).2.2⟩
      · rintro σ H6 ⟨as, bss, cu, v8, rfl, k6, d6, L6, cl, hcu, nd, nn⟩
        rw [← hn] at cl
        refine ⟨_, rfl, _, rfl, _, rfl, by show 3 ≤ sizeLine; decide, fun t ht => ?_⟩
        have s7 := same_new (o := .tup [.ref ii, .ref aa, .ref r]) ht
        have ei6 := hp_kp k6 ndi ei
        have ea6 := hp_kp k6 nda ea
        refine q _ t ii aa r as bss ini acc cu ((k5.trans k6).trans (Same.kp s7)) (d6.new ht) upd_same (s7 _ _ ei6) (s7 _ _ ea6) (lc_same s7 L6) ⟨ndi, nda, nrd.symm, fun b hb => (nn b hb).1, nd, fun z => (nn r (.inl z)).2 rfl, fun bs hb z => (nn r (.inr ⟨bs, hb, z⟩)).2 rfl⟩ ⟨by omega, fun z => by rw [z] at cl; simp at cl; omega, asc_mono hi (by omega), asc_mono ha (by omega), fun q hq => ⟨(hcu q hq).1, fun e he => asc_mono ((hcu q hq).2 e he).1 (by omega)⟩⟩ (by omega) li (by omega) (fun q hq e he => ((hcu q hq).2 e he).2)
theorem not_big {n x : Int} {ys : List Int} (h : x ∈ ys) (c : n ≤ x) : ¬ Asc n ys := fun a => by have := (a.2 x h).2; omega
theorem not_neg {n x : Int} {ys : List Int} (h : x ∈ ys) (c : x < 0) : ¬ Asc n ys := fun a => by have := (a.2 x h).1; omega
theorem not_twice {n : Int} {xs : List Int} {k : Nat} (h : k < xs.length) : ¬ Asc n (xs.take (k + 1) ++ xs.drop k) := fun a => by
  have h1 : xs[k] ∈ xs.take (k + 1) := by
    rw [take_get (List.getElem?_eq_getElem h)]
    exact List.mem_append.mpr (.inr (List.mem_singleton.mpr rfl))
  have h2 : xs[k] ∈ xs.drop k := by
    rw [List.drop_eq_getElem_cons h]
    exact List.mem_cons_self
  have := (List.pairwise_append.mp a.1).2.2 _ h1 _ h2
  omega
theorem not_swap {n : Int} {xs ys zs : List Int} {k : Nat} (h : k + 1 < xs.length) (hA : Asc n xs) : ¬ Asc n (ys ++ [lw xs (k + 1), lw xs k] ++ zs) := fun a => by
  have h1 := (List.pairwise_append.mp (List.pairwise_append.mp a.1).1).2.1
  have h2 := List.rel_of_pairwise_cons h1 (List.mem_cons_self (a := lw xs k) (l := []))
  have h3 := (List.pairwise_iff_getElem.mp hA.1) k (k + 1) (by omega) h (Nat.lt_succ_self k)
  have e1 : lw xs k = xs[k] := by
    unfold lw
    rw [List.getD_eq_getElem?_getD, List.getElem?_eq_getElem (show k < xs.length by omega)]
    rfl
  have e2 : lw xs (k + 1) = xs[k + 1] := by
    unfold lw
    rw [List.getD_eq_getElem?_getD, List.getElem?_eq_getElem h]
    rfl
  omega
def spSpoil : Sp := fun vs H Q _ => ∃ (d q : Addr) (xs : List Int) (n : Int), vs = [.ref d, .ref q, .int n] ∧ Drw H d ∧ d ≠ q ∧ H q = some (.lst (xs.map V.int)) ∧ Asc n xs ∧ xs.length ≤ 100 ∧
  ∀ (H' : Hp) (t : Addr) (ys : List Int), Kp d H H' → Drw H' d → H t = none → H' t = some (.lst (ys.map V.int)) → ¬ Asc n ys → ys.length ≤ 200 → Q (.ref t) H'
theorem len_ok {xs ys : List Int} (h : xs.length + ys.length ≤ 1000) : (xs.map V.int).length + (ys.map V.int).length ≤ sizeLine := by
  rw [List.length_map, List.length_map]
  exact Nat.le_trans h (by decide)
theorem cal_spoil (T : Txt K mg) : C8.Cal P w K mg base 2 "_law_spoil_list" spSpoil [] := by
  have C_law_take : C8.Cal P w K mg base 1 "_law_take" spTake [] := cal_take T
  obtain ⟨f, fd, F, hm, hb⟩ := T.h_law_spoil_list
  refine ⟨f, fd, _, [], F.ok sc_law_spoil_list (fun vs H Q E h => ?_) (fun cdv A outer s H vs Q E hr h => ?_), hm, F.kp, hb, .nil⟩
  · obtain ⟨d, q, xs, n, rfl, _⟩ := h
    rfl
  · obtain ⟨d, qa, xs, n, rfl, hd, ndq, hq, hA, hl, q⟩ := h
    refine ⟨_, (pss_cons
      (ps_set (i := 3) sc_law_spoil_list.nd rfl (Or.inl rfl) (C8.pe_c C_law_take hr (by decide) (by rfl) (pa_cons (pv 0) (pa_cons pe_int pa_nil))))
      (pss_cons
      (ps_if (pt_cmpR op_eq (pv 3) pe_int (nomark _)) (pss_one
      (ps_ret (pe_op op_cat (pe_callTy (call_list_ofK (K := K) rfl) (by rfl) T.z_list (by decide +kernel) (pa_cons (pv 1) pa_nil)) (pe_lst (pa_cons (pe_op op_add (pv 2) (C8.pe_c C_law_take hr (by decide) (by rfl) (pa_cons (pv 0) (pa_cons pe_int pa_nil)))) pa_nil))))) pss_nil)
      (pss_cons
      (ps_if (pt_cmpR op_eq (pv 3) pe_int (nomark _)) (pss_one
      (ps_ret (pe_op op_cat (pe_lst (pa_cons (pe_op op_sub (pe_un un_neg pe_int) (C8.pe_c C_law_take hr (by decide) (by rfl) (pa_cons (pv 0) (pa_cons pe_int pa_nil)))) pa_nil)) (pe_callTy (call_list_ofK (K := K) rfl) (by rfl) T.z_list (by decide +kernel) (pa_cons (pv 1) pa_nil))))) pss_nil)
      (C8.pss_cut
      (ps_if (PW.pt (pw_and (pt_cmpR op_eq (pv 3) pe_int (nomark _)) (pw_and1 (pt_cmpR op_gt (pe_callB (call_lenK (K := K) rfl) (by rfl) T.z_len PySem.boot_len (pa_cons (pv 1) pa_nil)) pe_int (nomark _))))) (pss_cons
      (ps_set (i := 4) sc_law_spoil_list.nd rfl (Or.inl rfl) (C8.pe_c C_law_take hr (by decide) (by rfl) (pa_cons (pv 0) (pa_cons (pe_callB (call_lenK (K := K) rfl) (by rfl) T.z_len PySem.boot_len (pa_cons (pv 1) pa_nil)) pa_nil))))
      (pss_one
      (ps_ret (pe_op op_cat (pe_callTy (call_list_ofK (K := K) rfl) (by rfl) T.z_list (by decide +kernel) (pa_cons (pe_slice (sl_listK (K := K) rfl) (pv 1) po_none (po_some (pe_op op_add (pv 4) pe_int))) pa_nil)) (pe_callTy (call_list_ofK (K := K) rfl) (by rfl) T.z_list (by decide +kernel) (pa_cons (pe_slice (sl_listK (K := K) rfl) (pv 1) (po_some (pv 4)) po_none) pa_nil)))))) pss_nil)
      (pss_cons
      (ps_if (pt_cmpR op_gt (pe_callB (call_lenK (K := K) rfl) (by rfl) T.z_len PySem.boot_len (pa_cons (pv 1) pa_nil)) pe_int (nomark _)) (pss_cons
      (ps_set (i := 4) sc_law_spoil_list.nd rfl (Or.inl rfl) (C8.pe_c C_law_take hr (by decide) (by rfl) (pa_cons (pv 0) (pa_cons (pe_op op_sub (pe_callB (call_lenK (K := K) rfl) (by rfl) T.z_len PySem.boot_len (pa_cons (pv 1) pa_nil)) pe_int) pa_nil))))
      (pss_one
      (ps_ret (pe_op op_cat (pe_op op_cat (pe_callTy (call_list_ofK (K := K) rfl) (by rfl) T.z_list (by decide +kernel) (pa_cons (pe_slice (sl_listK (K := K) rfl) (pv 1) po_none (po_some (pv 4))) pa_nil)) (pe_lst (pa_cons (pe_ix (ix_listK (K := K) rfl) (pv 1) (pe_op op_add (pv 4) pe_int) (fun _ _ => rfl)) (pa_cons (pe_ix (ix_listK (K := K) rfl) (pv 1) (pv 4) (fun _ _ => rfl)) pa_nil)))) (pe_callTy (call_list_ofK (K := K) rfl) (by rfl) T.z_list (by decide +kernel) (pa_cons (pe_slice (sl_listK (K := K) rfl) (pv 1) (po_some (pe_op op_add (pv 4) pe_int)) po_none) pa_nil)))))) pss_nil)
      (pss_one
      (ps_ret (pe_op op_cat (pe_callTy (call_list_ofK (K := K) rfl) (by rfl) T.z_list (by decide +kernel) (pa_cons (pv 1) pa_nil)) (pe_lst (pa_cons (pv 2) pa_nil)))))))))), ?_⟩
    refine ⟨_, rfl, d, 4, rfl, hd, by decide, fun k ds k0 k1 => ?_⟩
    have hq1 := hp_kp (Kp.own (o := .lst (ds.map V.int))) ndq hq
    have kp1 : Kp d H (upd H d (.lst (ds.map V.int))) := Kp.own
    have d1 : Drw (upd H d (.lst (ds.map V.int))) d := Drw.own
    have q' : ∀ (H' : Hp) (t : Addr) (ys : List Int), Kp d (upd H d (.lst (ds.map V.int))) H' → Drw H' d → (upd H d (.lst (ds.map V.int))) t = none → H' t = some (.lst (ys.map V.int)) → ¬ Asc n ys → ys.length ≤ 200 → Q (.ref t) H' := fun H' t ys k' d' ft et na yl => q H' t ys (kp1.trans k') d' (by
      by_cases z : t = d
      · rw [z, upd_same] at ft; cases ft
      · rw [upd_ne z] at ft; exact ft) et na yl
    generalize upd H d (.lst (ds.map V.int)) = H1 at *
    clear q hq hd kp1
    have nf : ∀ {H' : Hp} {t : Addr}, Kp d H1 H' → Drw H' d → H' t = none → H1 t = none := fun {H' t} k' d' ht => by
      cases e : H1 t with
      | none => rfl
      | some o =>
        have := k' t o (fun z => by obtain ⟨u, y⟩ := d'; rw [← z, ht] at y; cases y) e
        rw [ht] at this
        cases this
    refine ⟨_, rfl, rfl, _, rfl, ite_eq (fun c => ?_) (fun c => ?_)⟩
    · -- one too large behind
      refine ⟨_, rfl, qa, _, rfl, .inl (.of hq1), fun t1 ht1 => ?_⟩
      have s2 : Same H1 (upd H1 t1 (.lst (xs.map V.int))) := same_new ht1
      have e1 : (upd H1 t1 (.lst (xs.map V.int))) t1 = some (.lst (xs.map V.int)) := upd_same
      generalize upd H1 t1 (.lst (xs.map V.int)) = H2 at *
      have d2 : Drw H2 d := by obtain ⟨o, y⟩ := d1; exact ⟨o, s2 _ _ y⟩
      have nd1 : d ≠ t1 := fun z => by obtain ⟨o, y⟩ := d1; rw [z, ht1] at y; cases y
      refine ⟨_, rfl, _, rfl, d, 3, rfl, d2, by decide, fun u us u0 u1 => ?_⟩
      have e2 := hp_kp (Kp.own (o := .lst (us.map V.int))) nd1 e1
      have k3 : Kp d H1 (upd H2 d (.lst (us.map V.int))) := (Same.kp s2).trans Kp.own
      have d3 : Drw (upd H2 d (.lst (us.map V.int))) d := Drw.own
      generalize upd H2 d (.lst (us.map V.int)) = H3 at *
      refine ⟨_, _, rfl, rfl, by show 1 ≤ sizeLine; decide, fun t2 ht2 => ?_⟩
      have s4 := same_new (o := .lst [.int (n + u)]) ht2
      refine ⟨t1, t2, _, _, rfl, rfl, s4 _ _ e2, upd_same, len_ok (ys := [n + u]) (by show xs.length + 1 ≤ 1000; omega), fun t3 ht3 => ?_⟩
      have s5 := same_new (o := .lst (xs.map V.int ++ [.int (n + u)])) ht3
      have k5 := (k3.trans (Same.kp s4)).trans (Same.kp s5)
      exact q' _ t3 (xs ++ [n + u]) k5 ((d3.new ht2).new ht3) (nf (k3.trans (Same.kp s4)) (d3.new ht2) ht3) (by rw [upd_same, List.map_append]; rfl) (not_big (x := n + u) (by simp) (by omega)) (by rw [List.length_append]; show xs.length + 1 ≤ 200; omega)
    refine ⟨_, rfl, rfl, _, rfl, ite_eq (fun c => ?_) (fun c => ?_)⟩
    · -- a negative one in front
      refine ⟨_, rfl, _, rfl, d, 2, rfl, d1, by decide, fun u us u0 u1 => ?_⟩
      have e2 := hp_kp (Kp.own (o := .lst (us.map V.int))) ndq hq1
      have k3 : Kp d H1 (upd H1 d (.lst (us.map V.int))) := Kp.own
      have d3 : Drw (upd H1 d (.lst (us.map V.int))) d := Drw.own
      generalize upd H1 d (.lst (us.map V.int)) = H3 at *
      refine ⟨_, _, rfl, rfl, by show 1 ≤ sizeLine; decide, fun t1 ht1 => ?_⟩
      have s4 := same_new (o := .lst [.int (-1 - u)]) ht1
      refine ⟨_, rfl, qa, _, rfl, .inl (.of (s4 _ _ e2)), fun t2 ht2 => ?_⟩
      have s5 := same_new (o := .lst (xs.map V.int)) ht2
      refine ⟨t1, t2, _, _, rfl, rfl, s5 _ _ upd_same, upd_same, len_ok (xs := [-1 - u]) (by show 1 + xs.length ≤ 1000; omega), fun t3 ht3 => ?_⟩
      have s6 := same_new (o := .lst ([.int (-1 - u)] ++ xs.map V.int)) ht3
      have k5 := (k3.trans (Same.kp s4)).trans (Same.kp s5)
      exact q' _ t3 ([-1 - u] ++ xs) (k5.trans (Same.kp s6)) (((d3.new ht1).new ht2).new ht3) (nf k5 ((d3.new ht1).new ht2) ht3) (by rw [upd_same, List.map_append]; rfl) (not_neg (x := -1 - u) (by simp) (by omega)) (by rw [List.length_append]; show 1 + xs.length ≤ 200; omega)
    refine ⟨fun σ H' => ∃ v4 : Option V, σ = [some (.ref d), some (.ref qa), some (.int n), some (.int k), v4] ∧ H' = H1, ?_, ?_⟩
    · refine ⟨_, rfl, rfl, _, rfl, ite_eq (fun c => ?_) (fun c => ⟨none, rfl, rfl⟩)⟩
      refine ⟨_, rfl, qa, _, rfl, .inl (.of hq1), _, _, rfl, rfl, _, rfl, ite2 (fun c => ?_) (fun c => ⟨none, rfl, rfl⟩)⟩
      have c := of_decide_eq_true c
      rw [List.length_map] at c
      -- one letter twice
      refine ⟨_, rfl, _, rfl, qa, _, rfl, .inl (.of hq1), d, _, rfl, d1, by rw [List.length_map]; omega, fun u us u0 u1 => ?_⟩
      rw [List.length_map] at u1
      have e2 := hp_kp (Kp.own (o := .lst (us.map V.int))) ndq hq1
      have k3 : Kp d H1 (upd H1 d (.lst (us.map V.int))) := Kp.own
      have d3 : Drw (upd H1 d (.lst (us.map V.int))) d := Drw.own
      generalize upd H1 d (.lst (us.map V.int)) = H3 at *
      obtain ⟨p, ep⟩ : ∃ p : Nat, u = p := ⟨u.toNat, by omega⟩
      subst ep
      refine ⟨_, rfl, _, rfl, _, _, rfl, rfl, _, rfl, ?_⟩
      refine sll_to (n := p + 1) e2 rfl fun a1 ha1 => ?_
      have s4 := same_new (o := .lst ((xs.take (p + 1)).map V.int)) ha1
      refine ⟨a1, _, rfl, .inl (.of upd_same), fun t1 ht1 => ?_⟩
      have s5 := same_new (o := .lst ((xs.take (p + 1)).map V.int)) ht1
      refine ⟨_, rfl, _, rfl, _, rfl, ?_⟩
      dsimp only [tNoPart]
      refine sll_from (n := p) (s5 _ _ (s4 _ _ e2)) rfl (by omega) fun a2 ha2 => ?_
      have s6 := same_new (o := .lst ((xs.drop p).map V.int)) ha2
      refine ⟨a2, _, rfl, .inl (.of upd_same), fun t2 ht2 => ?_⟩
      have s7 := same_new (o := .lst ((xs.drop p).map V.int)) ht2
      refine ⟨t1, t2, _, _, rfl, rfl, s7 _ _ (s6 _ _ upd_same), upd_same, len_ok (by rw [List.length_take, List.length_drop]; omega), fun t3 ht3 => ?_⟩
      have s8 := same_new (o := .lst ((xs.take (p + 1)).map V.int ++ (xs.drop p).map V.int)) ht3
      have k7 := (((k3.trans (Same.kp s4)).trans (Same.kp s5)).trans (Same.kp s6)).trans (Same.kp s7)
      exact q' _ t3 (xs.take (p + 1) ++ xs.drop p) (k7.trans (Same.kp s8)) (((((d3.new ha1).new ht1).new ha2).new ht2).new ht3) (nf k7 ((((d3.new ha1).new ht1).new ha2).new ht2) ht3) (by rw [upd_same, List.map_append]) (not_twice (by omega)) (by rw [List.length_append, List.length_take, List.length_drop]; omega)
    rintro σ H' ⟨v4, rfl, rfl⟩
    refine ⟨_, rfl, qa, _, rfl, .inl (.of hq1), _, _, rfl, rfl, _, rfl, ite2 (fun c => ?_) (fun c => ?_)⟩
    · have c := of_decide_eq_true c
      rw [List.length_map] at c
      refine ⟨_, rfl, _, rfl, qa, _, rfl, .inl (.of hq1), _, _, rfl, rfl, d, _, rfl, d1, by rw [List.length_map]; omega, fun u us u0 u1 => ?_⟩
      rw [List.length_map] at u1
      have e2 := hp_kp (Kp.own (o := .lst (us.map V.int))) ndq hq1
      have k3 : Kp d H' (upd H' d (.lst (us.map V.int))) := Kp.own
      have d3 : Drw (upd H' d (.lst (us.map V.int))) d := Drw.own
      generalize upd H' d (.lst (us.map V.int)) = H3 at *
      obtain ⟨p, ep⟩ : ∃ p : Nat, u = p := ⟨u.toNat, by omega⟩
      subst ep
      refine ⟨_, rfl, _, rfl, _, rfl, ?_⟩
      refine sll_to (n := p) e2 rfl fun a1 ha1 => ?_
      have s4 := same_new (o := .lst ((xs.take p).map V.int)) ha1
      refine ⟨a1, _, rfl, .inl (.of upd_same), fun t1 ht1 => ?_⟩
      have s5 := same_new (o := .lst ((xs.take p).map V.int)) ht1
      have e5 := s5 _ _ (s4 _ _ e2)
      have g1 : atI (xs.map V.int) ((p : Int) + 1) = some (.int (lw xs (p + 1))) := by
        rw [show (p : Int) + 1 = ((p + 1 : Nat) : Int) by omega]
        exact atI_nat (at_map (by omega))
      have g2 : atI (xs.map V.int) (p : Int) = some (.int (lw xs p)) := atI_nat (at_map (by omega))
      refine ⟨_, rfl, _, rfl, _, _, rfl, rfl, qa, _, _, _, rfl, rfl, .of e5, g1, _, rfl, _, rfl, qa, _, _, _, rfl, rfl, .of e5, g2, by show 2 ≤ sizeLine; decide, fun t2 ht2 => ?_⟩
      have s6 := same_new (o := .lst [.int (lw xs (p + 1)), .int (lw xs p)]) ht2
      refine ⟨t1, t2, _, _, rfl, rfl, s6 _ _ upd_same, upd_same, len_ok (ys := [lw xs (p + 1), lw xs p]) (by rw [List.length_take]; show _ + 2 ≤ 1000; omega), fun t3 ht3 => ?_⟩
      have s7 := same_new (o := .lst ((xs.take p).map V.int ++ [.int (lw xs (p + 1)), .int (lw xs p)])) ht3
      refine ⟨_, rfl, _, rfl, _, _, rfl, rfl, _, rfl, ?_⟩
      dsimp only [tNoPart]
      refine sll_from (n := p + 2) (s7 _ _ (s6 _ _ e5)) rfl (by omega) fun a2 ha2 => ?_
      have s8 := same_new (o := .lst ((xs.drop (p + 2)).map V.int)) ha2
      refine ⟨a2, _, rfl, .inl (.of upd_same), fun t4 ht4 => ?_⟩
      have s9 := same_new (o := .lst ((xs.drop (p + 2)).map V.int)) ht4
      have ee : (xs.take p).map V.int ++ [V.int (lw xs (p + 1)), V.int (lw xs p)] = (xs.take p ++ [lw xs (p + 1), lw xs p]).map V.int := by
        rw [List.map_append]
        rfl
      refine ⟨t3, t4, _, _, rfl, rfl, s9 _ _ (s8 _ _ upd_same), upd_same, by rw [ee]; exact len_ok (by rw [List.length_append, List.length_take, List.length_drop]; show _ + 2 + _ ≤ 1000; omega), fun t5 ht5 => ?_⟩
      have s10 := same_new (o := .lst ((xs.take p).map V.int ++ [.int (lw xs (p + 1)), .int (lw xs p)] ++ (xs.drop (p + 2)).map V.int)) ht5
      have k9 := (((((k3.trans (Same.kp s4)).trans (Same.kp s5)).trans (Same.kp s6)).trans (Same.kp s7)).trans (Same.kp s8)).trans (Same.kp s9)
      exact q' _ t5 (xs.take p ++ [lw xs (p + 1), lw xs p] ++ xs.drop (p + 2)) (k9.trans (Same.kp s10)) (((((((d3.new ha1).new ht1).new ht2).new ht3).new ha2).new ht4).new ht5) (nf k9 ((((((d3.new ha1).new ht1).new ht2).new ht3).new ha2).new ht4) ht5) (by rw [upd_same, ee, ← List.map_append]) (not_swap (by omega) hA) (by rw [List.length_append, List.length_append, List.length_take, List.length_drop]; show _ + 2 + _ ≤ 200; omega)
    · refine ⟨_, rfl, qa, _, rfl, .inl (.of hq1), fun t1 ht1 => ?_⟩
      have s2 := same_new (o := .lst (xs.map V.int)) ht1
      refine ⟨_, rfl, by show 1 ≤ sizeLine; decide, fun t2 ht2 => ?_⟩
      have s4 := same_new (o := .lst [.int n]) ht2
      refine ⟨t1, t2, _, _, rfl, rfl, s4 _ _ upd_same, upd_same, len_ok (ys := [n]) (by show xs.length + 1 ≤ 1000; omega), fun t3 ht3 => ?_⟩
      have s5 := same_new (o := .lst (xs.map V.int ++ [.int n])) ht3
      have k4 := (Same.kp (d := d) s2).trans (Same.kp s4)
      exact q' _ t3 (xs ++ [n]) (k4.trans (Same.kp s5)) (((d1.new ht1).new ht2).new ht3) (nf k4 ((d1.new ht1).new ht2) ht3) (by rw [upd_same, List.map_append]; rfl) (not_big (x := n) (by simp) (Int.le_refl _)) (by rw [List.length_append]; show xs.length + 1 ≤ 200; omega)
theorem ll_kp2 {d r : Addr} {H H' : Hp} {as : List Addr} {bss : List (List Addr)} {c : List (List (List Int))} (k : Kp d H H') (n : d ≠ r) (m : ∀ b, (b ∈ as ∨ ∃ bs ∈ bss, b ∈ bs) → b ≠ d) (h : LC H r as bss c) : LC H' r as bss c := ⟨k _ _ n.symm h.1, cub_keep (fun b o hb e => k _ _ (m b hb) e) h.2⟩
theorem slr_to {K : PySem.W.Frag} {H : Hp} {a : Addr} {as : List Addr} {k : Int} {n : Nat} {Q : VK} (h : H a = some (.lst (as.map V.ref))) (ek : k = (n : Int))
    (q : ∀ p, H p = none → Q (.ref p) (upd H p (.lst ((as.take n).map V.ref)))) : rSlL K (.ref a) none (some k) H Q := by
  subst ek
  refine ⟨a, _, rfl, .of h, fun p hp => ?_⟩
  have e : cutV (as.map V.ref) none (some (n : Int)) = (as.take n).map V.ref := by
    unfold cutV
    rw [HT.sIx_none, HT.sIx_nat, List.drop_zero, Nat.sub_zero, List.length_map, List.map_take]
    rcases Nat.le_total n as.length with c | c
    · rw [Nat.min_eq_left c]
    · rw [Nat.min_eq_right c, List.take_of_length_le (by rw [List.length_map]; exact Nat.le_refl _), List.take_of_length_le (by rw [List.length_map]; exact c)]
  rw [e]
  exact q p hp
theorem rows_put {H : Hp} {q : List Int} {t : Addr} (ht : H t = some (.lst (q.map V.int))) : ∀ {as : List Addr} {rows : List (List Int)} {i : Nat}, RowsA .lst H as rows → RowsA .lst H (as.set i t) (rows.set i q)
  | [], [], _, h => h
  | b :: as, [], _, h => h.elim
  | [], b :: rows, _, h => h.elim
  | b :: as, r :: rs, 0, h => ⟨ht, h.2⟩
  | b :: as, r :: rs, i + 1, h => ⟨h.1, rows_put ht h.2⟩
theorem rows_take {H : Hp} {mk : List V → HO} : ∀ {n : Nat} {as : List Addr} {rows : List (List Int)}, RowsA mk H as rows → RowsA mk H (as.take n) (rows.take n)
  | 0, _, _, _ => True.intro
  | n + 1, [], [], h => h
  | n + 1, a :: as, r :: rs, h => ⟨h.1, rows_take h.2⟩
  | _ + 1, [], _ :: _, h => h.elim
  | _ + 1, _ :: _, [], h => h.elim
theorem ref_int {as : List Addr} {xs : List Int} (h : (as.map V.ref) = xs.map V.int) : as = [] := by
  cases as with
  | nil => rfl
  | cons a as =>
    cases xs with
    | nil => cases h
    | cons x xs => cases h
theorem cub_upd {a : Addr} {bs' : List Addr} {row' : List (List Int)} : ∀ {H : Hp} {as : List Addr} {bss : List (List Addr)} {c : List (List (List Int))} {i : Nat}, CubB .lst H as bss c → as.Nodup → as[i]? = some a → (∀ bs ∈ bss, a ∉ bs) → a ∉ bs' → RowsA .lst H bs' row' → CubB .lst (upd H a (.lst (bs'.map V.ref))) as (bss.set i bs') (c.set i row')
  | _, [], _, _, _, _, _, e, _, _, _ => by simp at e
  | H, b :: as, bs :: bss, r :: rs, 0, h, nd, e, hn, hb, hR => by
    have : b = a := Option.some.inj e
    subst this
    refine ⟨⟨upd_same, My.RowsA.drop hb hR⟩, cub_keep (fun c o hc h => ?_) h.2⟩
    rw [upd_ne ?_]
    · exact h
    · rcases hc with z | ⟨q, z, y⟩
      · exact fun u => (List.nodup_cons.mp nd).1 (by rw [← u]; exact z)
      · exact fun u => hn q (List.mem_cons_of_mem _ z) (by rw [← u]; exact y)
  | H, b :: as, bs :: bss, r :: rs, i + 1, h, nd, e, hn, hb, hR => by
    have e2 : as[i]? = some a := e
    refine ⟨⟨?_, My.RowsA.drop (hn bs List.mem_cons_self) h.1.2⟩, cub_upd h.2 (List.nodup_cons.mp nd).2 e2 (fun q hq => hn q (List.mem_cons_of_mem _ hq)) hb hR⟩
    rw [upd_ne (fun z => (List.nodup_cons.mp nd).1 (by rw [z]; exact List.mem_of_getElem? e2))]
    exact h.1.1
  | _, _ :: _, [], _, _, h, _, _, _, _, _ => h.elim
  | _, _ :: _, _ :: _, [], _, h, _, _, _, _, _ => h.elim
theorem cub_put {H : Hp} {t : Addr} {bs' : List Addr} {row' : List (List Int)} (ht : H t = some (.lst (bs'.map V.ref))) (hR : RowsA .lst H bs' row') : ∀ {as : List Addr} {bss : List (List Addr)} {c : List (List (List Int))} {i : Nat}, CubB .lst H as bss c → CubB .lst H (as.set i t) (bss.set i bs') (c.set i row')
  | [], [], [], _, h => h
  | a :: as, bs :: bss, r :: rs, 0, h => ⟨⟨ht, hR⟩, h.2⟩
  | a :: as, bs :: bss, r :: rs, i + 1, h => ⟨h.1, cub_put ht hR h.2⟩
  | [], [], _ :: _, _, h => h.elim
  | [], _ :: _, _, _, h => h.elim
  | _ :: _, [], _, _, h => h.elim
  | _ :: _, _ :: _, [], _, h => h.elim
/-! data -/
def dCub (c : List (List (List Int))) : List PyData := c.map fun r => .list (dRows r)
theorem layCub : ∀ c : List (List (List Int)), PyData.canLayAll0 (dCub c) = true
  | [] => rfl
  | r :: rs => by
    show PyData.canLayAll0 (PyData.list (dRows r) :: dCub rs) = true
    rw [PyData.canLayAll0, PyData.canLay0, layRows r, layCub rs]
    rfl
theorem depCub : ∀ c : List (List (List Int)), PyData.depthAll (dCub c) ≤ 2
  | [] => by simp [dCub, PyData.depthAll]
  | r :: rs => by
    show PyData.depthAll (PyData.list (dRows r) :: dCub rs) ≤ 2
    have := depCub rs
    have := depRows r
    rw [PyData.depthAll, PyData.depth]
    omega
theorem dpCub {K : PySem.W.Frag} {H : Hp} : ∀ {as : List Addr} {bss : List (List Addr)} {c : List (List (List Int))}, CubB .lst H as bss c → DpAll K H (as.map V.ref) (dCub c)
  | [], [], [], _ => .nil
  | a :: as, bs :: bss, r :: rs, h => .cons (.lst (.of h.1.1) (dpRows h.1.2)) (dpCub h.2)
  | [], [], _ :: _, h => h.elim
  | [], _ :: _, _, h => h.elim
  | _ :: _, [], _, h => h.elim
  | _ :: _, _ :: _, [], h => h.elim
def dOne (c : List (List (List Int))) : PyData := .list (dCub c)
theorem lay_one (c : List (List (List Int))) : (dOne c).canLay0 = true := by
  unfold dOne
  rw [PyData.canLay0, layCub]
theorem shaped_one (c : List (List (List Int))) : SeqAt.shaped (dOne c) = true := by
  refine shaped_of (lay_one c) ?_
  unfold dOne
  have := depCub c
  rw [PyData.depth]
  omega
theorem dp_one {K : PySem.W.Frag} {H : Hp} {r : Addr} {as : List Addr} {bss : List (List Addr)} {c : List (List (List Int))} (h : LC H r as bss c) : Dp K H (.ref r) (dOne c) := .lst (.of h.1) (dpCub h.2)
def dThree (ini acc : List Int) (c : List (List (List Int))) : PyData := .list [.list (ini.map PyData.int), .list (acc.map PyData.int), dOne c]
theorem lay_three (ini acc : List Int) (c : List (List (List Int))) : (dThree ini acc c).canLay0 = true := by
  unfold dThree
  rw [PyData.canLay0, PyData.canLayAll0, PyData.canLayAll0, PyData.canLayAll0, PyData.canLayAll0, PyData.canLay0, layAll, PyData.canLay0, layAll, lay_one]
  rfl
theorem shaped_three (ini acc : List Int) (c : List (List (List Int))) : SeqAt.shaped (dThree ini acc c) = true := by
  refine shaped_of (lay_three ini acc c) ?_
  unfold dThree dOne
  have := depCub c
  rw [PyData.depth, PyData.depthAll, PyData.depthAll, PyData.depthAll, PyData.depthAll, PyData.depth, depAll, PyData.depth, depAll, PyData.depth]
  omega
theorem dp_three {K : PySem.W.Frag} {H : Hp} {t i a r : Addr} {as : List Addr} {bss : List (List Addr)} {ini acc : List Int} {c : List (List (List Int))} (ht : H t = some (.lst [.ref i, .ref a, .ref r])) (hi : H i = some (.lst (ini.map V.int))) (ha : H a = some (.lst (acc.map V.int))) (hr : LC H r as bss c) : Dp K H (.ref t) (dThree ini acc c) :=
  .lst (.of ht) (.cons (dp_lst hi) (.cons (dp_lst ha) (.cons (dp_one hr) .nil)))
def KL (S : List Addr) (H H' : Hp) : Prop := ∀ b o, b ∉ S → H b = some o → H' b = some o
theorem KL.trans {S : List Addr} {H H1 H2 : Hp} (a : KL S H H1) (b : KL S H1 H2) : KL S H H2 := fun c o n h => b c o n (a c o n h)
theorem kl_upd {S : List Addr} {H : Hp} {x : Addr} {o : HO} (h : x ∈ S) : KL S H (upd H x o) := fun b _ n e => by rw [upd_ne (fun z => n (by rw [z]; exact h))]; exact e
theorem kl_same {S : List Addr} {H H' : Hp} (s : Same H H') : KL S H H' := fun b o _ e => s b o e
theorem rows_kl {S : List Addr} {H H' : Hp} (k : KL S H H') (hs : ∀ b ∈ S, ∃ ys, H b = some (.lst ys)) : ∀ {as : List Addr} {rs : List (List Int)}, RowsA .tup H as rs → RowsA .tup H' as rs
  | [], [], _ => True.intro
  | a :: as, r :: rs, h => ⟨k _ _ (fun z => by obtain ⟨ys, y⟩ := hs a z; have := h.1; rw [y] at this; cases this) h.1, rows_kl k hs h.2⟩
  | [], _ :: _, h => h.elim
  | _ :: _, [], h => h.elim
theorem cub_kl {S : List Addr} {H H' : Hp} (k : KL S H H') (hs : ∀ b ∈ S, ∃ ys, H b = some (.lst ys)) : ∀ {as : List Addr} {bss : List (List Addr)} {c : List (List (List Int))}, CubB .tup H as bss c → CubB .tup H' as bss c
  | [], [], [], _ => True.intro
  | a :: as, bs :: bss, r :: rs, h => ⟨⟨k _ _ (fun z => by obtain ⟨ys, y⟩ := hs a z; have := h.1.1; rw [y] at this; cases this) h.1.1, rows_kl k hs h.1.2⟩, cub_kl k hs h.2⟩
  | [], [], _ :: _, h => h.elim
  | [], _ :: _, _, h => h.elim
  | _ :: _, [], _, h => h.elim
  | _ :: _, _ :: _, [], h => h.elim
theorem aut_kl {C : Addr} {S : List Addr} {H H' : Hp} {x : Addr} {L : Int} {ini acc : List Int} {c : List (List (List Int))} (k : KL S H H') (hs : ∀ b ∈ S, ∃ ys, H b = some (.lst ys)) (h : AutAt C H x L ini acc c) : AutAt C H' x L ini acc c := by
  obtain ⟨dx, it, at_, rt, as, bss, e1, e2, e3, e4, e5⟩ := h
  have f2 : H it = some (.tup (ini.map V.int)) := e2
  have f3 : H at_ = some (.tup (acc.map V.int)) := e3
  refine ⟨dx, it, at_, rt, as, bss, k _ _ (fun z => ?_) e1, k _ _ (fun z => ?_) e2, k _ _ (fun z => ?_) e3, k _ _ (fun z => ?_) e4, cub_kl k hs e5⟩
  · obtain ⟨ys, y⟩ := hs _ z
    rw [y] at e1
    cases e1
  · obtain ⟨ys, y⟩ := hs _ z
    rw [y] at f2
    cases f2
  · obtain ⟨ys, y⟩ := hs _ z
    rw [y] at f3
    cases f3
  · obtain ⟨ys, y⟩ := hs _ z
    rw [y] at e4
    cases e4
def Md (sa d : Addr) (n k sta le : Int) (j : Int) : L2.St → Hp → Prop := fun σ H => ∃ (L : Int) (ii aa r : Addr) (as : List Addr) (bss : List (List Addr)) (ini acc : List Int) (cu : List (List (List Int))),
  σ = [some (.ref sa), some (.ref d), some (.int L), some (.ref ii), some (.ref aa), some (.ref r), some (.int n), some (.int k), some (.int sta), some (.int le), none, none, none, none, none, none] ∧
  H ii = some (.lst (ini.map V.int)) ∧ H aa = some (.lst (acc.map V.int)) ∧ LC H r as bss cu ∧ Drw H d ∧ cu.length ≤ 100 ∧ ini.length ≤ 200 ∧ acc.length ≤ 200 ∧ (∀ q ∈ cu, q.length ≤ 200 ∧ ∀ e ∈ q, e.length ≤ 200) ∧ (k < j → ¬ VldB L ini acc cu) ∧
  (j ≤ k → GdB d ii aa r as bss ∧ VldB L ini acc cu ∧ n = cu.length ∧ 0 ≤ sta ∧ sta < n ∧ 0 ≤ le ∧ le < L ∧ L ≤ 100 ∧ cu.length ≤ 50 ∧ ini.length ≤ 100 ∧ acc.length ≤ 100 ∧ ∀ q ∈ cu, ∀ e ∈ q, e.length ≤ 100)
theorem ok_law {f : Addr} {fd : FuncData} (F : L2.Fun K "law" "law" s_law f fd) (T : Txt K mg) : FnOk P w K mg base CX0 6 f fd ["script"] (spLaw K) := by
  obtain ⟨cS, cI, C, fI, fdI, eI, PC, hM, gC, F0, hB, gS, kS⟩ := T.er
  have C_law_draws : C8.Cal P w K mg base 1 "_law_draws" (spDraws K) [] := cal_draws T
  have C_law_take : C8.Cal P w K mg base 1 "_law_take" spTake [] := cal_take T
  have C_law_automaton : C8.Cal P w K mg base 3 "_law_automaton" spAut [] := cal_aut T
  have C_law_copy : C8.Cal P w K mg base 1 "_law_copy" spCopy [] := cal_copy T
  have C_law_spoil_list : C8.Cal P w K mg base 2 "_law_spoil_list" spSpoil [] := cal_spoil T
  have C_law_is_automaton : C8.Cal P w K mg base 4 "_law_is_automaton" (spIsAut C) [] := cal_isaut T PC
  have C_law_outcome : C8.Cal P w K mg base 4 "_law_outcome" (spAutOut C) [] := cal_autout T eI PC hM gC F0 hB gS kS
  refine F.ok sc_law (fun vs H Q E h => ?_) (fun cdv A outer s H vs Q E hr h => ?_)
  · obtain ⟨a, ns, rfl, _⟩ := h
    rfl
  · obtain ⟨sa, ns, rfl, hS, hlen, q⟩ := h
    refine ⟨_, (pss_cons
      (ps_set (i := 1) sc_law.nd rfl (Or.inl rfl) (C8.pe_c C_law_draws hr (by decide) (by rfl) (pa_cons (pv 0) (pa_cons pe_int pa_nil))))
      (pss_cons
      (ps_set (i := 2) sc_law.nd rfl (Or.inl rfl) (pe_op op_add pe_int (C8.pe_c C_law_take hr (by decide) (by rfl) (pa_cons (pv 1) (pa_cons pe_int pa_nil)))))
      (pss_cons
      (ps_asg (C8.pe_c C_law_automaton hr (by decide) (by rfl) (pa_cons (pv 1) (pa_cons (pv 2) (pa_cons pe_int pa_nil)))) (pg_tup (by rfl) (pgs_cons (pg_name (i := 3) sc_law.nd rfl (.inl rfl)) (pgs_cons (pg_name (i := 4) sc_law.nd rfl (.inl rfl)) (pgs_cons (pg_name (i := 5) sc_law.nd rfl (.inl rfl)) pgs_nil)))))
      (pss_cons
      (ps_set (i := 6) sc_law.nd rfl (Or.inl rfl) (pe_callB (call_lenK (K := K) rfl) (by rfl) T.z_len PySem.boot_len (pa_cons (pv 5) pa_nil)))
      (pss_cons
      (ps_set (i := 7) sc_law.nd rfl (Or.inl rfl) (C8.pe_c C_law_take hr (by decide) (by rfl) (pa_cons (pv 1) (pa_cons pe_int pa_nil))))
      (pss_cons
      (ps_set (i := 8) sc_law.nd rfl (Or.inl rfl) (C8.pe_c C_law_take hr (by decide) (by rfl) (pa_cons (pv 1) (pa_cons (pv 6) pa_nil))))
      (pss_cons
      (ps_set (i := 9) sc_law.nd rfl (Or.inl rfl) (C8.pe_c C_law_take hr (by decide) (by rfl) (pa_cons (pv 1) (pa_cons (pv 2) pa_nil))))
      (C8.pss_cut
      (ps_if (pt_cmpR op_eq (pv 7) pe_int (nomark _)) (pss_one
      (ps_set (i := 2) sc_law.nd rfl (Or.inl rfl) (pe_ix (ix_listK (K := K) rfl) (pe_lst (pa_cons pe_int (pa_cons (pe_un un_neg pe_int) pa_nil))) (C8.pe_c C_law_take hr (by decide) (by rfl) (pa_cons (pv 1) (pa_cons pe_int pa_nil))) (fun _ _ => rfl)))) pss_nil)
      (C8.pss_cut
      (ps_if (pt_cmpR op_eq (pv 7) pe_int (nomark _)) (pss_cons
      (ps_set (i := 5) sc_law.nd rfl (Or.inl rfl) (pe_lst pa_nil))
      (pss_cons
      (ps_set (i := 3) sc_law.nd rfl (Or.inl rfl) (pe_lst pa_nil))
      (pss_one
      (ps_set (i := 4) sc_law.nd rfl (Or.inl rfl) (pe_lst pa_nil))))) pss_nil)
      (C8.pss_cut
      (ps_if (pt_cmpR op_eq (pv 7) pe_int (nomark _)) (pss_one
      (ps_set (i := 3) sc_law.nd rfl (Or.inl rfl) (C8.pe_c C_law_spoil_list hr (by decide) (by rfl) (pa_cons (pv 1) (pa_cons (pv 3) (pa_cons (pv 6) pa_nil)))))) pss_nil)
      (C8.pss_cut
      (ps_if (pt_cmpR op_eq (pv 7) pe_int (nomark _)) (pss_one
      (ps_set (i := 4) sc_law.nd rfl (Or.inl rfl) (C8.pe_c C_law_spoil_list hr (by decide) (by rfl) (pa_cons (pv 1) (pa_cons (pv 4) (pa_cons (pv 6) pa_nil)))))) pss_nil)
      (C8.pss_cut
      (ps_if (pt_cmpR op_eq (pv 7) pe_int (nomark _)) (pss_one
      (ps_asg (C8.pe_c C_law_spoil_list hr (by decide) (by rfl) (pa_cons (pv 1) (pa_cons (pe_ix (ix_listK (K := K) rfl) (pe_ix (ix_listK (K := K) rfl) (pv 5) (pv 8) (fun _ _ => rfl)) (pv 9) (fun _ _ => rfl)) (pa_cons (pv 6) pa_nil)))) (pg_sub (pe_ix (ix_listK (K := K) rfl) (pv 5) (pv 8) (fun _ _ => rfl)) (pv 9) set_list))) pss_nil)
      (C8.pss_cut
      (ps_if (pt_cmpR op_eq (pv 7) pe_int (nomark _)) (pss_one
      (ps_asg (pe_op op_cat (pe_ix (ix_listK (K := K) rfl) (pv 5) (pv 8) (fun _ _ => rfl)) (pe_lst (pa_cons (pe_lst pa_nil) pa_nil))) (pg_sub (pv 5) (pv 8) set_list))) pss_nil)
      (C8.pss_cut
      (ps_if (pt_cmpR op_eq (pv 7) pe_int (nomark _)) (pss_one
      (ps_asg (pe_slice (sl_listK (K := K) rfl) (pe_ix (ix_listK (K := K) rfl) (pv 5) (pv 8) (fun _ _ => rfl)) po_none (po_some (pe_op op_sub (pv 2) pe_int))) (pg_sub (pv 5) (pv 8) set_list))) pss_nil)
      (pss_cons
      (ps_set (i := 10) sc_law.nd rfl (Or.inl rfl) (pe_lst (pa_cons (pe_callTy (call_list_ofK (K := K) rfl) (by rfl) T.z_list (by decide +kernel) (pa_cons (pv 3) pa_nil)) (pa_cons (pe_callTy (call_list_ofK (K := K) rfl) (by rfl) T.z_list (by decide +kernel) (pa_cons (pv 4) pa_nil)) (pa_cons (C8.pe_c C_law_copy hr (by decide) (by rfl) (pa_cons (pv 5) pa_nil)) pa_nil)))))
      (pss_cons
      (ps_set (i := 11) sc_law.nd rfl (Or.inl rfl) (C8.pe_c C_law_outcome hr (by decide) (by rfl) (pa_cons (pv 2) (pa_cons (pe_ix (ix_listK (K := K) rfl) (pv 10) pe_int (fun _ _ => rfl)) (pa_cons (pe_ix (ix_listK (K := K) rfl) (pv 10) pe_int (fun _ _ => rfl)) (pa_cons (pe_ix (ix_listK (K := K) rfl) (pv 10) pe_int (fun _ _ => rfl)) pa_nil))))))
      (pss_cons
      (ps_if (pt_cmpR (op_neDK (K := K) rfl hr.units) (pv 10) (pe_lst (pa_cons (pv 3) (pa_cons (pv 4) (pa_cons (pv 5) pa_nil)))) (nomark _)) (pss_one
      (ps_ret pe_bl)) pss_nil)
      (pss_cons
      (ps_if (pt_cmpR op_lt (pv 7) pe_int (nomark _)) (pss_one
      (ps_ret (pe_cmpR op_isN (pv 11) pe_non (nomark _)))) pss_nil)
      (pss_cons
      (ps_if (PW.pt (pw_or (pt_not (pt_val (pe_callB (call_isiK' (K := K) rfl) (by rfl) T.z_isinstance (by decide +kernel) (pa_cons (pv 11) (pa_cons (pe_glob (v := .ref C) (by rfl) gC rfl) pa_nil))))) (pw_or1 (pt_not (pt_val (C8.pe_c C_law_is_automaton hr (by decide) (by rfl) (pa_cons (pv 11) (pa_cons (pv 2) pa_nil)))))))) (pss_one
      (ps_ret pe_bl)) pss_nil)
      (pss_cons
      (ps_expr (pe_bm PySem.F.plainAttrs_list PySem.F.slot_list_append PySem.F.type_list_append mt_append (pe_ix (ix_listK (K := K) rfl) (pv 10) pe_int (fun _ _ => rfl)) (pa_cons pe_int pa_nil)))
      (pss_cons
      (ps_expr (pe_bm PySem.F.plainAttrs_list PySem.F.slot_list_append PySem.F.type_list_append mt_append (pe_ix (ix_listK (K := K) rfl) (pv 10) pe_int (fun _ _ => rfl)) (pa_cons pe_int pa_nil)))
      (pss_cons
      (ps_set (i := 12) sc_law.nd rfl (Or.inl rfl) (pe_ix (ix_listK (K := K) rfl) (pe_ix (ix_listK (K := K) rfl) (pv 10) pe_int (fun _ _ => rfl)) (pv 8) (fun _ _ => rfl)))
      (pss_cons
      (ps_asg (pe_lst (pa_cons pe_int (pa_cons pe_int pa_nil))) (pg_sub (pv 12) (pv 9) set_list))
      (pss_cons
      (ps_set (i := 13) sc_law.nd rfl (Or.inl rfl) (pe_ix (ix_listK (K := K) rfl) (pv 10) pe_int (fun _ _ => rfl)))
      (pss_cons
      (ps_expr (pe_bm PySem.F.plainAttrs_list PySem.F.slot_list_append PySem.F.type_list_append mt_append (pv 13) (pa_cons (pe_lst pa_nil) pa_nil)))
      (pss_cons
      (ps_setLc (i := 14) (own := [("row", 12)]) (g := gName 12) (tt := tYes) rfl sc_law.nd rfl rfl (sw_true rfl rfl rfl (by decide +kernel)) (pi_tup (pe_fld (pv 11) rfl)) (blkOk_by (N := N_law) (sc := defScope s_law) (by decide +kernel)) (fun _ _ _ _ _ => pg_name (i := 12) sc_law.nd rfl (Or.inl rfl)) (fun _ _ _ _ _ => pts_nil) (fun _ _ _ _ _ => (pe_lc (own := [("targets", 15)]) (g := gName 15) (tt := tYes) rfl sc_law.nd (pi_tupK (K := K) rfl (pv 12)) (blkOk_by (N := N_law) (sc := stS (defScope s_law) 25 (defBody s_law)) (by decide +kernel)) (fun _ _ _ _ _ => pg_name (i := 15) sc_law.nd rfl (Or.inl rfl)) (fun _ _ _ _ _ => pts_nil) (fun _ _ _ _ _ => (pe_callTy (call_list_ofK (K := K) rfl) (by rfl) T.z_list (by decide +kernel) (pa_cons (pv 15) pa_nil))))))
      (pss_one
      (ps_ret (pe_and (pe_cmpR (op_eqDK (K := K) rfl hr.units) (pe_callTy (call_list_ofK (K := K) rfl) (by rfl) T.z_list (by decide +kernel) (pa_cons (pe_fld (pv 11) rfl) pa_nil)) (pv 3) (nomark _)) (pe_and (pe_cmpR (op_eqDK (K := K) rfl hr.units) (pe_callTy (call_list_ofK (K := K) rfl) (by rfl) T.z_list (by decide +kernel) (pa_cons (pe_fld (pv 11) rfl) pa_nil)) (pv 4) (nomark _)) (pe_one (pe_cmpR (op_eqDK (K := K) rfl hr.units) (pv 14) (pv 5) (nomark _))))))))))))))))))))))))))))))))), ?_⟩
    refine ⟨_, rfl, sa, ns, 150, rfl, hS, by decide, fun H1 d s1 hd0 d1 => ?_⟩
    refine ⟨_, rfl, d, 3, rfl, d1, by decide, fun l ds l0 l1 => ?_⟩
    have d2 : Drw (upd H1 d (.lst (ds.map V.int))) d := Drw.own
    generalize upd H1 d (.lst (ds.map V.int)) = H2 at *
    clear d1 s1 hd0
    refine ⟨_, _, rfl, rfl, ?_⟩
    refine ⟨_, rfl, _, rfl, d, 1 + l, 4, rfl, d2, by omega, by omega, by omega, by omega, fun H3 t ii aa r as bss ini acc cu k3 d3 et hi ha hL G hv bm bi ba bc => ?_⟩
    have hl2 : (as.map V.ref).length = cu.length := by rw [List.length_map, (cub_len hL.2).1]
    have hnp : 0 < cu.length := List.length_pos_iff.mpr hv.2.1
    refine ⟨t, _, rfl, .of et, rfl, _, _, rfl, _, _, rfl, _, _, rfl, rfl, ?_⟩
    refine ⟨_, rfl, r, _, rfl, .inl (.of hL.1), ?_⟩
    rw [hl2]
    obtain ⟨g1, g2, g3, g4, g5, g6, g7⟩ := id G
    refine ⟨_, rfl, d, 14, rfl, d3, by decide, fun k ds2 k0 k1 => ?_⟩
    refine ⟨_, rfl, _, rfl, d, cu.length, rfl, Drw.own, by omega, fun sta ds4 t0 t1 => ?_⟩
    refine ⟨_, rfl, _, rfl, d, 1 + l, rfl, Drw.own, by omega, fun le ds5 e0 e1 => ?_⟩
    have kk : Kp d H3 (upd (upd (upd H3 d (.lst (ds2.map V.int))) d (.lst (ds4.map V.int))) d (.lst (ds5.map V.int))) := (Kp.own.trans Kp.own).trans Kp.own
    have dd : Drw (upd (upd (upd H3 d (.lst (ds2.map V.int))) d (.lst (ds4.map V.int))) d (.lst (ds5.map V.int))) d := Drw.own
    generalize upd (upd (upd H3 d (.lst (ds2.map V.int))) d (.lst (ds4.map V.int))) d (.lst (ds5.map V.int)) = H4 at *
    have hi4 := hp_kp kk g1 hi
    have ha4 := hp_kp kk g2 ha
    have hL4 := ll_kp2 kk g3 g4 hL
    have b3 : ∀ q ∈ cu, q.length ≤ 200 ∧ ∀ e ∈ q, e.length ≤ 200 := fun q hq => ⟨by have := (hv.2.2.2.2 q hq).1; omega, fun e he => by have := bc q hq e he; omega⟩
    obtain ⟨n, en⟩ : ∃ n : Int, n = cu.length := ⟨_, rfl⟩
    rw [← en]
    rw [← en] at t1
    -- cut 0
    refine ⟨Md sa d n k sta le 1, ?_, ?_⟩
    · refine ⟨_, rfl, rfl, _, rfl, ite_eq (fun c => ?_) (fun c => ?_)⟩
      · refine ⟨_, rfl, by show 2 ≤ sizeLine; decide, fun t1 ht1 => ?_⟩
        have dt : Drw (upd H4 t1 (.lst [.int 0, .int (-1)])) d := dd.new ht1
        have ndt : t1 ≠ d := fun z => by obtain ⟨o, y⟩ := dd; rw [← z, ht1] at y; cases y
        refine ⟨_, rfl, d, 2, rfl, dt, by decide, fun z ds6 z0 z1 => ?_⟩
        obtain ⟨v, hv1, hv2⟩ : ∃ v : Int, atI [V.int 0, V.int (-1)] z = some (.int v) ∧ v < 1 := by
          have : z = 0 ∨ z = 1 := by omega
          rcases this with y | y
          · subst y; exact ⟨_, rfl, by decide⟩
          · subst y; exact ⟨_, rfl, by decide⟩
        refine ⟨t1, _, _, .int v, rfl, rfl, .of (by rw [upd_ne ndt, upd_same]), hv1, ?_⟩
        have k5 : Kp d H4 (upd (upd H4 t1 (.lst [.int 0, .int (-1)])) d (.lst (ds6.map V.int))) := (Kp.new ht1).trans Kp.own
        exact ⟨v, ii, aa, r, as, bss, ini, acc, cu, rfl, hp_kp k5 g1 hi4, hp_kp k5 g2 ha4, ll_kp2 k5 g3 g4 hL4, Drw.own, by omega, by omega, by omega, b3, fun _ w => by have := w.1; omega, fun z => by omega⟩
      · exact ⟨1 + l, ii, aa, r, as, bss, ini, acc, cu, rfl, hi4, ha4, hL4, dd, by omega, by omega, by omega, b3, fun z => by omega, fun _ => ⟨G, hv, en, t0, t1, e0, e1, by omega, by omega, bi, ba, bc⟩⟩
    clear hi ha hL hi4 ha4 hL4 dd kk d3 k3 et b3 G hnp g1 g2 g3 g4 g5 g6 g7 hl2 e0 e1 hv bi ba bc t0 t1
    -- cut 1
    rintro σ H ⟨L, ii, aa, r, as, bss, ini, acc, cu, rfl, hi, ha, hL, hd, b1, b2, b3, b4, hbad, hgood⟩
    refine ⟨Md sa d n k sta le 2, ?_, ?_⟩
    · refine ⟨_, rfl, rfl, _, rfl, ite_eq (fun c => ?_) (fun c => ⟨L, ii, aa, r, as, bss, ini, acc, cu, rfl, hi, ha, hL, hd, b1, b2, b3, b4, fun z => hbad (by omega), fun z => hgood (by omega)⟩)⟩
      obtain ⟨⟨g1, g2, g3, g4, g5, g6, g7⟩, hv, en, t0, t1, e0, e1, u1, u2, u3, u4, u5⟩ := hgood (by omega)
      have hnp : 0 < cu.length := List.length_pos_iff.mpr hv.2.1
      have dsame : ∀ {H' : Hp}, Same H H' → Drw H' d := fun s' => by obtain ⟨o, y⟩ := hd; exact ⟨o, s' _ _ y⟩
      refine ⟨Nat.zero_le _, fun r2 hr2 => ?_⟩
      refine ⟨Nat.zero_le _, fun i2 hi2 => ?_⟩
      refine ⟨Nat.zero_le _, fun a2 ha2 => ?_⟩
      have s1 := same_new (o := .lst []) hr2
      have s2 := same_new (o := .lst []) hi2
      have s3 := same_new (o := .lst []) ha2
      exact ⟨L, i2, a2, r2, [], [], [], [], [], rfl, s3 _ _ upd_same, upd_same, ⟨s3 _ _ (s2 _ _ upd_same), True.intro⟩, dsame (s1.trans (s2.trans s3)), by simp, by simp, by simp, by simp, fun _ w => w.2.1 rfl, fun z => by omega⟩
    -- cut 2
    rintro σ H ⟨L, ii, aa, r, as, bss, ini, acc, cu, rfl, hi, ha, hL, hd, b1, b2, b3, b4, hbad, hgood⟩
    refine ⟨Md sa d n k sta le 3, ?_, ?_⟩
    · refine ⟨_, rfl, rfl, _, rfl, ite_eq (fun c => ?_) (fun c => ⟨L, ii, aa, r, as, bss, ini, acc, cu, rfl, hi, ha, hL, hd, b1, b2, b3, b4, fun z => hbad (by omega), fun z => hgood (by omega)⟩)⟩
      obtain ⟨⟨g1, g2, g3, g4, g5, g6, g7⟩, hv, en, t0, t1, e0, e1, u1, u2, u3, u4, u5⟩ := hgood (by omega)
      have hnp : 0 < cu.length := List.length_pos_iff.mpr hv.2.1
      have dsame : ∀ {H' : Hp}, Same H H' → Drw H' d := fun s' => by obtain ⟨o, y⟩ := hd; exact ⟨o, s' _ _ y⟩
      refine ⟨_, rfl, _, rfl, _, rfl, d, ii, ini, n, rfl, hd, g1, hi, by rw [en]; exact hv.2.2.1, u3, fun H' t ys k' d' ft et na yl => ?_⟩
      refine ⟨L, t, aa, r, as, bss, ys, acc, cu, rfl, et, hp_kp k' g2 ha, ll_kp2 k' g3 g4 hL, d', b1, yl, b3, b4, fun _ w => na (by rw [en]; exact w.2.2.1), fun z => by omega⟩
    -- cut 3
    rintro σ H ⟨L, ii, aa, r, as, bss, ini, acc, cu, rfl, hi, ha, hL, hd, b1, b2, b3, b4, hbad, hgood⟩
    refine ⟨Md sa d n k sta le 4, ?_, ?_⟩
    · refine ⟨_, rfl, rfl, _, rfl, ite_eq (fun c => ?_) (fun c => ⟨L, ii, aa, r, as, bss, ini, acc, cu, rfl, hi, ha, hL, hd, b1, b2, b3, b4, fun z => hbad (by omega), fun z => hgood (by omega)⟩)⟩
      obtain ⟨⟨g1, g2, g3, g4, g5, g6, g7⟩, hv, en, t0, t1, e0, e1, u1, u2, u3, u4, u5⟩ := hgood (by omega)
      have hnp : 0 < cu.length := List.length_pos_iff.mpr hv.2.1
      have dsame : ∀ {H' : Hp}, Same H H' → Drw H' d := fun s' => by obtain ⟨o, y⟩ := hd; exact ⟨o, s' _ _ y⟩
      refine ⟨_, rfl, _, rfl, _, rfl, d, aa, acc, n, rfl, hd, g2, ha, by rw [en]; exact hv.2.2.2.1, u4, fun H' t ys k' d' ft et na yl => ?_⟩
      refine ⟨L, ii, t, r, as, bss, ini, ys, cu, rfl, hp_kp k' g1 hi, et, ll_kp2 k' g3 g4 hL, d', b1, b2, yl, b4, fun _ w => na (by rw [en]; exact w.2.2.2.1), fun z => by omega⟩
    -- cut 4
    rintro σ H ⟨L, ii, aa, r, as, bss, ini, acc, cu, rfl, hi, ha, hL, hd, b1, b2, b3, b4, hbad, hgood⟩
    refine ⟨Md sa d n k sta le 5, ?_, ?_⟩
    · refine ⟨_, rfl, rfl, _, rfl, ite_eq (fun c => ?_) (fun c => ⟨L, ii, aa, r, as, bss, ini, acc, cu, rfl, hi, ha, hL, hd, b1, b2, b3, b4, fun z => hbad (by omega), fun z => hgood (by omega)⟩)⟩
      obtain ⟨⟨g1, g2, g3, g4, g5, g6, g7⟩, hv, en, t0, t1, e0, e1, u1, u2, u3, u4, u5⟩ := hgood (by omega)
      have hnp : 0 < cu.length := List.length_pos_iff.mpr hv.2.1
      have dsame : ∀ {H' : Hp}, Same H H' → Drw H' d := fun s' => by obtain ⟨o, y⟩ := hd; exact ⟨o, s' _ _ y⟩
      have clen := cub_len hL.2
      have hst : sta.toNat < as.length := by omega
      obtain ⟨a, haa⟩ : ∃ a, as[sta.toNat]? = some a := ⟨_, List.getElem?_eq_getElem hst⟩
      obtain ⟨bs, row, hbs, hrow, hra, hR⟩ := cub_get hL.2 haa
      have ham : a ∈ as := List.mem_of_getElem? haa
      have hrm := List.mem_of_getElem? hrow
      have hbm := List.mem_of_getElem? hbs
      obtain ⟨r1, r2⟩ := hv.2.2.2.2 row hrm
      have hbl := hR.len
      have hat : atI (as.map V.ref) sta = some (.ref a) := by
        rw [show sta = ((sta.toNat : Nat) : Int) by omega]
        exact atI_nat (by rw [List.getElem?_map, haa]; rfl)
      have hix : ixN (as.map V.ref).length sta = some sta.toNat := by
        rw [show sta = ((sta.toNat : Nat) : Int) by omega]
        exact ixN_at (by rw [List.length_map]; exact hst)
      have nad : a ≠ d := g4 a (.inl ham)
      have nra : r ≠ a := fun z => g6 (by rw [z]; exact ham)
      have bne : bs ≠ [] := fun z => by rw [z] at hbl; simp at hbl; omega
      have nia : ii ≠ a := fun z => by
        rw [z, hra] at hi
        exact bne (ref_int (HO.lst.inj (Option.some.inj hi)))
      have naa : aa ≠ a := fun z => by
        rw [z, hra] at ha
        exact bne (ref_int (HO.lst.inj (Option.some.inj ha)))
      have nab : ∀ qs ∈ bss, a ∉ qs := fun qs hqs hm => by
        obtain ⟨i, hi2⟩ := List.mem_iff_getElem?.mp hqs
        obtain ⟨a3, ha3⟩ : ∃ a3, as[i]? = some a3 := ⟨_, List.getElem?_eq_getElem (by have := (List.getElem?_eq_some_iff.mp hi2).1; omega)⟩
        obtain ⟨bs3, row3, x1, x2, x3, x4⟩ := cub_get hL.2 ha3
        rw [hi2] at x1
        have : qs = bs3 := Option.some.inj x1
        subst this
        obtain ⟨j, hj⟩ := List.mem_iff_getElem?.mp hm
        obtain ⟨e, _, he⟩ := x4.get hj
        rw [hra] at he
        exact bne (ref_int (HO.lst.inj (Option.some.inj he)))
      have hle : le.toNat < bs.length := by omega
      obtain ⟨b, hb⟩ : ∃ b, bs[le.toNat]? = some b := ⟨_, List.getElem?_eq_getElem hle⟩
      obtain ⟨e, hes, hbe⟩ := hR.get hb
      have hem := List.mem_of_getElem? hes
      have hbt : atI (bs.map V.ref) le = some (.ref b) := by
        rw [show le = ((le.toNat : Nat) : Int) by omega]
        exact atI_nat (by rw [List.getElem?_map, hb]; rfl)
      have hbx : ixN (bs.map V.ref).length le = some le.toNat := by
        rw [show le = ((le.toNat : Nat) : Int) by omega]
        exact ixN_at (by rw [List.length_map]; exact hle)
      have hbm2 : b ∈ bs := List.mem_of_getElem? hb
      refine ⟨_, rfl, _, rfl, _, rfl, r, _, _, .ref a, rfl, rfl, .of hL.1, hat, _, rfl, a, _, _, .ref b, rfl, rfl, .of hra, hbt, _, rfl, d, b, e, n, rfl, hd, (g4 b (.inr ⟨bs, hbm, hbm2⟩)).symm, hbe, by rw [en]; exact r2 e hem, u5 row hrm e hem, fun H' t ys k' d' ft et na yl => ?_⟩
      have hL' := ll_kp2 k' g3 g4 hL
      have hra' := k' _ _ nad hra
      have nta : t ≠ a := fun z => by rw [z, hra] at ft; cases ft
      have hbs' : RowsA .lst H' bs row := hR.keep fun c o hc h => k' _ _ (g4 c (.inr ⟨bs, hbm, hc⟩)) h
      refine ⟨_, rfl, _, rfl, r, _, _, .ref a, rfl, rfl, .of hL'.1, hat, _, rfl, a, _, le, le.toNat, rfl, rfl, hra', hbx, ?_⟩
      have ml : (bs.map V.ref).set le.toNat (.ref t) = (bs.set le.toNat t).map V.ref := by rw [List.map_set]
      rw [ml]
      refine ⟨L, ii, aa, r, as, bss.set sta.toNat (bs.set le.toNat t), ini, acc, cu.set sta.toNat (row.set le.toNat ys), rfl, by rw [upd_ne nia]; exact hp_kp k' g1 hi, by rw [upd_ne naa]; exact hp_kp k' g2 ha, ⟨by rw [upd_ne nra]; exact hL'.1, cub_upd hL'.2 g5 haa nab (fun z => ?_) (rows_put et hbs')⟩, by obtain ⟨o, y⟩ := d'; exact ⟨o, by rw [upd_ne nad.symm]; exact y⟩, by rw [List.length_set]; exact b1, b2, b3, fun q hq => ?_, fun _ w => ?_, fun z => by omega⟩
      · rcases List.mem_or_eq_of_mem_set z with y | y
        · exact nab bs hbm y
        · exact nta y.symm
      · rcases List.mem_or_eq_of_mem_set hq with y | y
        · exact b4 q y
        · rw [y, List.length_set]
          refine ⟨(b4 row hrm).1, fun e2 he2 => ?_⟩
          rcases List.mem_or_eq_of_mem_set he2 with u | u
          · exact (b4 row hrm).2 e2 u
          · rw [u]
            exact yl
      · have i1 : row.set le.toNat ys ∈ cu.set sta.toNat (row.set le.toNat ys) := List.mem_of_getElem? (by rw [List.getElem?_set_self (by omega)])
        have i2 : ys ∈ row.set le.toNat ys := List.mem_of_getElem? (by rw [List.getElem?_set_self (by omega)])
        have := (w.2.2.2.2 _ i1).2 ys i2
        rw [List.length_set, ← en] at this
        exact na this
    -- cut 5
    rintro σ H ⟨L, ii, aa, r, as, bss, ini, acc, cu, rfl, hi, ha, hL, hd, b1, b2, b3, b4, hbad, hgood⟩
    refine ⟨Md sa d n k sta le 6, ?_, ?_⟩
    · refine ⟨_, rfl, rfl, _, rfl, ite_eq (fun c => ?_) (fun c => ⟨L, ii, aa, r, as, bss, ini, acc, cu, rfl, hi, ha, hL, hd, b1, b2, b3, b4, fun z => hbad (by omega), fun z => hgood (by omega)⟩)⟩
      obtain ⟨⟨g1, g2, g3, g4, g5, g6, g7⟩, hv, en, t0, t1, e0, e1, u1, u2, u3, u4, u5⟩ := hgood (by omega)
      have hnp : 0 < cu.length := List.length_pos_iff.mpr hv.2.1
      have dsame : ∀ {H' : Hp}, Same H H' → Drw H' d := fun s' => by obtain ⟨o, y⟩ := hd; exact ⟨o, s' _ _ y⟩
      have clen := cub_len hL.2
      have hst : sta.toNat < as.length := by omega
      obtain ⟨a, haa⟩ : ∃ a, as[sta.toNat]? = some a := ⟨_, List.getElem?_eq_getElem hst⟩
      obtain ⟨bs, row, hbs, hrow, hra, hR⟩ := cub_get hL.2 haa
      have ham : a ∈ as := List.mem_of_getElem? haa
      have hrm := List.mem_of_getElem? hrow
      have hbm := List.mem_of_getElem? hbs
      obtain ⟨r1, r2⟩ := hv.2.2.2.2 row hrm
      have hbl := hR.len
      have hat : atI (as.map V.ref) sta = some (.ref a) := by
        rw [show sta = ((sta.toNat : Nat) : Int) by omega]
        exact atI_nat (by rw [List.getElem?_map, haa]; rfl)
      have hix : ixN (as.map V.ref).length sta = some sta.toNat := by
        rw [show sta = ((sta.toNat : Nat) : Int) by omega]
        exact ixN_at (by rw [List.length_map]; exact hst)
      have nad : a ≠ d := g4 a (.inl ham)
      have nra : r ≠ a := fun z => g6 (by rw [z]; exact ham)
      have bne : bs ≠ [] := fun z => by rw [z] at hbl; simp at hbl; omega
      have nia : ii ≠ a := fun z => by
        rw [z, hra] at hi
        exact bne (ref_int (HO.lst.inj (Option.some.inj hi)))
      have naa : aa ≠ a := fun z => by
        rw [z, hra] at ha
        exact bne (ref_int (HO.lst.inj (Option.some.inj ha)))
      have nab : ∀ qs ∈ bss, a ∉ qs := fun qs hqs hm => by
        obtain ⟨i, hi2⟩ := List.mem_iff_getElem?.mp hqs
        obtain ⟨a3, ha3⟩ : ∃ a3, as[i]? = some a3 := ⟨_, List.getElem?_eq_getElem (by have := (List.getElem?_eq_some_iff.mp hi2).1; omega)⟩
        obtain ⟨bs3, row3, x1, x2, x3, x4⟩ := cub_get hL.2 ha3
        rw [hi2] at x1
        have : qs = bs3 := Option.some.inj x1
        subst this
        obtain ⟨j, hj⟩ := List.mem_iff_getElem?.mp hm
        obtain ⟨e, _, he⟩ := x4.get hj
        rw [hra] at he
        exact bne (ref_int (HO.lst.inj (Option.some.inj he)))
      refine ⟨_, rfl, _, rfl, r, _, _, .ref a, rfl, rfl, .of hL.1, hat, Nat.zero_le _, fun t0 ht0 => ⟨by show 1 ≤ sizeLine; decide, fun t1 ht1 => ?_⟩⟩
      have s1 := same_new (o := .lst []) ht0
      have s2 := same_new (o := .lst [.ref t0]) ht1
      refine ⟨a, t1, _, _, rfl, rfl, s2 _ _ (s1 _ _ hra), upd_same, by rw [List.length_map]; exact Nat.le_trans (show bs.length + 1 ≤ 1000 by omega) (by decide), fun t2 ht2 => ?_⟩
      have s3 := same_new (o := .lst (bs.map V.ref ++ [.ref t0])) ht2
      have s4 := s1.trans (s2.trans s3)
      have f0 : (upd (upd (upd H t0 (.lst [])) t1 (.lst [.ref t0])) t2 (.lst (bs.map V.ref ++ [.ref t0]))) t0 = some (.lst (([] : List Int).map V.int)) := s3 _ _ (s2 _ _ upd_same)
      have f2 : (upd (upd (upd H t0 (.lst [])) t1 (.lst [.ref t0])) t2 (.lst (bs.map V.ref ++ [.ref t0]))) t2 = some (.lst ((bs ++ [t0]).map V.ref)) := by
        rw [upd_same, List.map_append]
        rfl
      have n0 : r ≠ t0 := fun z => by have := hL.1; rw [z, ht0] at this; cases this
      have n2 : r ≠ t2 := fun z => by have := s2 _ _ (s1 _ _ hL.1); rw [z, ht2] at this; cases this
      have gR : RowsA .lst (upd (upd (upd H t0 (.lst [])) t1 (.lst [.ref t0])) t2 (.lst (bs.map V.ref ++ [.ref t0]))) (bs ++ [t0]) (row ++ [[]]) := RowsA.snoc f0 (hR.same s4)
      generalize upd (upd (upd H t0 (.lst [])) t1 (.lst [.ref t0])) t2 (.lst (bs.map V.ref ++ [.ref t0])) = H5 at *
      refine ⟨_, rfl, _, rfl, r, _, sta, sta.toNat, rfl, rfl, s4 _ _ hL.1, hix, ?_⟩
      have ml : (as.map V.ref).set sta.toNat (.ref t2) = (as.set sta.toNat t2).map V.ref := by rw [List.map_set]
      rw [ml]
      have nir : ii ≠ r := fun z => by
        have h1 := hL.1
        rw [← z, hi] at h1
        have := ref_int (HO.lst.inj (Option.some.inj h1)).symm
        rw [this] at hst
        simp at hst
      have nar : aa ≠ r := fun z => by
        have h1 := hL.1
        rw [← z, ha] at h1
        have := ref_int (HO.lst.inj (Option.some.inj h1)).symm
        rw [this] at hst
        simp at hst
      have nall : ∀ b, (b ∈ as.set sta.toNat t2 ∨ ∃ qs ∈ bss.set sta.toNat (bs ++ [t0]), b ∈ qs) → b ≠ r := fun b hb z => by
        subst z
        rcases hb with y | ⟨qs, y, x⟩
        · rcases List.mem_or_eq_of_mem_set y with u | u
          · exact g6 u
          · exact n2 u
        · rcases List.mem_or_eq_of_mem_set y with u | u
          · exact g7 qs u x
          · rw [u] at x
            rcases List.mem_append.mp x with v | v
            · exact g7 bs hbm v
            · exact n0 (List.mem_singleton.mp v)
      refine ⟨L, ii, aa, r, as.set sta.toNat t2, bss.set sta.toNat (bs ++ [t0]), ini, acc, cu.set sta.toNat (row ++ [[]]), rfl, by rw [upd_ne nir]; exact s4 _ _ hi, by rw [upd_ne nar]; exact s4 _ _ ha, ⟨upd_same, cub_keep (fun b o hb h => by rw [upd_ne (nall b hb)]; exact h) (cub_put f2 gR (cub_same s4 hL.2))⟩, by obtain ⟨o, y⟩ := hd; exact ⟨o, by rw [upd_ne g3]; exact s4 _ _ y⟩, by rw [List.length_set]; exact b1, b2, b3, fun q hq => ?_, fun _ w => ?_, fun z => by omega⟩
      · rcases List.mem_or_eq_of_mem_set hq with y | y
        · exact b4 q y
        · rw [y, List.length_append]
          refine ⟨by show row.length + 1 ≤ 200; omega, fun e2 he2 => ?_⟩
          rcases List.mem_append.mp he2 with u | u
          · exact (b4 row hrm).2 e2 u
          · rw [List.mem_singleton.mp u]
            simp
      · have i1 : row ++ [[]] ∈ cu.set sta.toNat (row ++ [[]]) := List.mem_of_getElem? (by rw [List.getElem?_set_self (by omega)])
        have := (w.2.2.2.2 _ i1).1
        rw [List.length_append] at this
        have h1 : ((row.length + 1 : Nat) : Int) = L := this
        omega
    -- cut 6
    rintro σ H ⟨L, ii, aa, r, as, bss, ini, acc, cu, rfl, hi, ha, hL, hd, b1, b2, b3, b4, hbad, hgood⟩
    refine ⟨Md sa d n k sta le 7, ?_, ?_⟩
    · refine ⟨_, rfl, rfl, _, rfl, ite_eq (fun c => ?_) (fun c => ⟨L, ii, aa, r, as, bss, ini, acc, cu, rfl, hi, ha, hL, hd, b1, b2, b3, b4, fun z => hbad (by omega), fun z => hgood (by omega)⟩)⟩
      obtain ⟨⟨g1, g2, g3, g4, g5, g6, g7⟩, hv, en, t0, t1, e0, e1, u1, u2, u3, u4, u5⟩ := hgood (by omega)
      have hnp : 0 < cu.length := List.length_pos_iff.mpr hv.2.1
      have dsame : ∀ {H' : Hp}, Same H H' → Drw H' d := fun s' => by obtain ⟨o, y⟩ := hd; exact ⟨o, s' _ _ y⟩
      have clen := cub_len hL.2
      have hst : sta.toNat < as.length := by omega
      obtain ⟨a, haa⟩ : ∃ a, as[sta.toNat]? = some a := ⟨_, List.getElem?_eq_getElem hst⟩
      obtain ⟨bs, row, hbs, hrow, hra, hR⟩ := cub_get hL.2 haa
      have ham : a ∈ as := List.mem_of_getElem? haa
      have hrm := List.mem_of_getElem? hrow
      have hbm := List.mem_of_getElem? hbs
      obtain ⟨r1, r2⟩ := hv.2.2.2.2 row hrm
      have hbl := hR.len
      have hat : atI (as.map V.ref) sta = some (.ref a) := by
        rw [show sta = ((sta.toNat : Nat) : Int) by omega]
        exact atI_nat (by rw [List.getElem?_map, haa]; rfl)
      have hix : ixN (as.map V.ref).length sta = some sta.toNat := by
        rw [show sta = ((sta.toNat : Nat) : Int) by omega]
        exact ixN_at (by rw [List.length_map]; exact hst)
      have nad : a ≠ d := g4 a (.inl ham)
      have nra : r ≠ a := fun z => g6 (by rw [z]; exact ham)
      have bne : bs ≠ [] := fun z => by rw [z] at hbl; simp at hbl; omega
      have nia : ii ≠ a := fun z => by
        rw [z, hra] at hi
        exact bne (ref_int (HO.lst.inj (Option.some.inj hi)))
      have naa : aa ≠ a := fun z => by
        rw [z, hra] at ha
        exact bne (ref_int (HO.lst.inj (Option.some.inj ha)))
      have nab : ∀ qs ∈ bss, a ∉ qs := fun qs hqs hm => by
        obtain ⟨i, hi2⟩ := List.mem_iff_getElem?.mp hqs
        obtain ⟨a3, ha3⟩ : ∃ a3, as[i]? = some a3 := ⟨_, List.getElem?_eq_getElem (by have := (List.getElem?_eq_some_iff.mp hi2).1; omega)⟩
        obtain ⟨bs3, row3, x1, x2, x3, x4⟩ := cub_get hL.2 ha3
        rw [hi2] at x1
        have : qs = bs3 := Option.some.inj x1
        subst this
        obtain ⟨j, hj⟩ := List.mem_iff_getElem?.mp hm
        obtain ⟨e, _, he⟩ := x4.get hj
        rw [hra] at he
        exact bne (ref_int (HO.lst.inj (Option.some.inj he)))
      refine ⟨_, rfl, _, rfl, r, _, _, .ref a, rfl, rfl, .of hL.1, hat, _, rfl, _, _, rfl, rfl, _, rfl, ?_⟩
      refine slr_to (n := (L - 1).toNat) hra (show L - 1 = (((L - 1).toNat : Nat) : Int) by omega) fun t2 ht2 => ?_
      have s4 : Same H (upd H t2 (.lst ((bs.take (L - 1).toNat).map V.ref))) := same_new ht2
      have f2 : (upd H t2 (.lst ((bs.take (L - 1).toNat).map V.ref))) t2 = some (.lst ((bs.take (L - 1).toNat).map V.ref)) := upd_same
      have n2 : r ≠ t2 := fun z => by have := hL.1; rw [z, ht2] at this; cases this
      have gR : RowsA .lst (upd H t2 (.lst ((bs.take (L - 1).toNat).map V.ref))) (bs.take (L - 1).toNat) (row.take (L - 1).toNat) := rows_take (hR.same s4)
      generalize upd H t2 (.lst ((bs.take (L - 1).toNat).map V.ref)) = H5 at *
      refine ⟨_, rfl, _, rfl, r, _, sta, sta.toNat, rfl, rfl, s4 _ _ hL.1, hix, ?_⟩
      have ml : (as.map V.ref).set sta.toNat (.ref t2) = (as.set sta.toNat t2).map V.ref := by rw [List.map_set]
      rw [ml]
      have nir : ii ≠ r := fun z => by
        have h1 := hL.1
        rw [← z, hi] at h1
        have := ref_int (HO.lst.inj (Option.some.inj h1)).symm
        rw [this] at hst
        simp at hst
      have nar : aa ≠ r := fun z => by
        have h1 := hL.1
        rw [← z, ha] at h1
        have := ref_int (HO.lst.inj (Option.some.inj h1)).symm
        rw [this] at hst
        simp at hst
      have nall : ∀ b, (b ∈ as.set sta.toNat t2 ∨ ∃ qs ∈ bss.set sta.toNat (bs.take (L - 1).toNat), b ∈ qs) → b ≠ r := fun b hb z => by
        subst z
        rcases hb with y | ⟨qs, y, x⟩
        · rcases List.mem_or_eq_of_mem_set y with u | u
          · exact g6 u
          · exact n2 u
        · rcases List.mem_or_eq_of_mem_set y with u | u
          · exact g7 qs u x
          · rw [u] at x
            exact g7 bs hbm (List.mem_of_mem_take x)
      refine ⟨L, ii, aa, r, as.set sta.toNat t2, bss.set sta.toNat (bs.take (L - 1).toNat), ini, acc, cu.set sta.toNat (row.take (L - 1).toNat), rfl, by rw [upd_ne nir]; exact s4 _ _ hi, by rw [upd_ne nar]; exact s4 _ _ ha, ⟨upd_same, cub_keep (fun b o hb h => by rw [upd_ne (nall b hb)]; exact h) (cub_put f2 gR (cub_same s4 hL.2))⟩, by obtain ⟨o, y⟩ := hd; exact ⟨o, by rw [upd_ne g3]; exact s4 _ _ y⟩, by rw [List.length_set]; exact b1, b2, b3, fun q hq => ?_, fun _ w => ?_, fun z => by omega⟩
      · rcases List.mem_or_eq_of_mem_set hq with y | y
        · exact b4 q y
        · rw [y, List.length_take]
          exact ⟨by omega, fun e2 he2 => (b4 row hrm).2 e2 (List.mem_of_mem_take he2)⟩
      · have i1 : row.take (L - 1).toNat ∈ cu.set sta.toNat (row.take (L - 1).toNat) := List.mem_of_getElem? (by rw [List.getElem?_set_self (by omega)])
        have := (w.2.2.2.2 _ i1).1
        rw [List.length_take] at this
        omega
    rintro σ H ⟨L, ii, aa, r, as, bss, ini, acc, cu, rfl, hi, ha, hL, hd, b1, b2, b3, b4, hbad, hgood⟩
    -- passed
    have hl2 : (as.map V.ref).length = cu.length := by rw [List.length_map, (cub_len hL.2).1]
    refine ⟨_, rfl, ii, _, rfl, .inl (.of hi), fun P0 hP0 => ?_⟩
    have s0 : Same H (upd H P0 (.lst (ini.map V.int))) := same_new hP0
    have p0 : (upd H P0 (.lst (ini.map V.int))) P0 = some (.lst (ini.map V.int)) := upd_same
    generalize upd H P0 (.lst (ini.map V.int)) = H0 at *
    refine ⟨_, rfl, aa, _, rfl, .inl (.of (s0 _ _ ha)), fun P1 hP1 => ?_⟩
    have s1 : Same H0 (upd H0 P1 (.lst (acc.map V.int))) := same_new hP1
    have p1 : (upd H0 P1 (.lst (acc.map V.int))) P1 = some (.lst (acc.map V.int)) := upd_same
    generalize upd H0 P1 (.lst (acc.map V.int)) = H1 at *
    refine ⟨_, rfl, r, as, bss, cu, rfl, lc_same (s0.trans s1) hL, by omega, fun q hq => by have := (b4 q hq).1; omega, fun H2 R2 as2 bss2 c2 => ?_⟩
    obtain ⟨s2, L2, fr2, frR, nR2⟩ := c2
    refine ⟨by show 3 ≤ sizeLine; decide, fun pa hpa => ?_⟩
    have s3 := same_new (o := .lst [.ref P0, .ref P1, .ref R2]) hpa
    have e3 : (upd H2 pa (.lst [.ref P0, .ref P1, .ref R2])) pa = some (.lst [.ref P0, .ref P1, .ref R2]) := upd_same
    generalize upd H2 pa (.lst [.ref P0, .ref P1, .ref R2]) = H3 at *
    have i0 : atI [V.ref P0, V.ref P1, V.ref R2] 0 = some (.ref P0) := rfl
    have i1 : atI [V.ref P0, V.ref P1, V.ref R2] 1 = some (.ref P1) := rfl
    have i2 : atI [V.ref P0, V.ref P1, V.ref R2] 2 = some (.ref R2) := rfl
    have p03 := s3 _ _ (s2 _ _ (s1 _ _ p0))
    have p13 := s3 _ _ (s2 _ _ p1)
    have s03 : Same H H3 := s0.trans (s1.trans (s2.trans s3))
    refine ⟨_, rfl, _, rfl, pa, _, _, _, rfl, rfl, .of e3, i0, _, rfl, pa, _, _, _, rfl, rfl, .of e3, i1, _, rfl, pa, _, _, _, rfl, rfl, .of e3, i2, P0, P1, R2, L, ini, acc, as2, bss2, cu, rfl, p03, p13, lc_same s3 L2, by omega, fun q hq => by have := (b4 q hq).1; omega, fun v H4 s4 hv => ?_⟩
    have hi4 := s4 _ _ (s03 _ _ hi)
    have ha4 := s4 _ _ (s03 _ _ ha)
    have hL4 := lc_same (s03.trans s4) hL
    have p04 := s4 _ _ p03
    have p14 := s4 _ _ p13
    have L24 := lc_same (s3.trans s4) L2
    have e34 := s4 _ _ e3
    refine ⟨_, rfl, _, rfl, _, rfl, _, rfl, by show 3 ≤ sizeLine; decide, fun t5 ht5 => ?_⟩
    have s5 := same_new (o := .lst [.ref ii, .ref aa, .ref r]) ht5
    refine ⟨_, _, dp_three (s5 _ _ e34) (s5 _ _ p04) (s5 _ _ p14) (lc_same s5 L24), dp_three upd_same (s5 _ _ hi4) (s5 _ _ ha4) (lc_same s5 hL4), shaped_three _ _ _, shaped_three _ _ _, ?_⟩
    rw [SeqAt.eqv_refl _ (lay_three ini acc cu)]
    refine ⟨_, rfl, ?_⟩
    have hi5 := s5 _ _ hi4
    have ha5 := s5 _ _ ha4
    have hL5 := lc_same s5 hL4
    have p05 := s5 _ _ p04
    have p15 := s5 _ _ p14
    have L25 := lc_same s5 L24
    have e35 := s5 _ _ e34
    have hv5 : (¬ VldB L ini acc cu ∧ v = .non) ∨ (VldB L ini acc cu ∧ ∃ x, v = .ref x ∧ AutAt C (upd H4 t5 (.lst [.ref ii, .ref aa, .ref r])) x L ini acc cu) := by
      rcases hv with ⟨a, b⟩ | ⟨a, x, b, c⟩
      · exact .inl ⟨a, b⟩
      · exact .inr ⟨a, x, b, aut_same s5 c⟩
    generalize upd H4 t5 (.lst [.ref ii, .ref aa, .ref r]) = H5 at *
    -- what was there before is not what is changed below
    have old : ∀ b o, H b = some o → b ≠ P0 ∧ b ≠ P1 ∧ b ≠ R2 ∧ b ∉ as2 := fun b o hb => by
      refine ⟨ne_of_none hb hP0, ne_of_none (s0 _ _ hb) hP1, ne_of_none (s1 _ _ (s0 _ _ hb)) frR, fun z => ?_⟩
      have := s1 _ _ (s0 _ _ hb)
      rw [fr2 b z] at this
      cases this
    have npa0 : pa ≠ P0 := fun z => by have := s2 _ _ (s1 _ _ p0); rw [← z, hpa] at this; cases this
    have npa1 : pa ≠ P1 := fun z => by have := s2 _ _ p1; rw [← z, hpa] at this; cases this
    have npaR : pa ≠ R2 := fun z => by have := L2.1; rw [← z, hpa] at this; cases this
    have npaA : ∀ b ∈ as2, pa ≠ b := fun b hb z => by
      obtain ⟨o, y⟩ := cub_some L2.2 (.inl hb)
      rw [← z, hpa] at y
      cases y
    have n01 : P0 ≠ P1 := fun z => by rw [z, hP1] at p0; cases p0
    have nR0 : R2 ≠ P0 := fun z => by have := s1 _ _ p0; rw [← z, frR] at this; cases this
    have nR1 : R2 ≠ P1 := fun z => by rw [← z, frR] at p1; cases p1
    have nA : ∀ b ∈ as2, b ≠ P0 ∧ b ≠ P1 ∧ b ≠ R2 := fun b hb => by
      refine ⟨fun z => ?_, fun z => ?_, nR2 b (.inl hb)⟩
      · have := s1 _ _ p0
        rw [← z, fr2 b hb] at this
        cases this
      · rw [← z, fr2 b hb] at p1
        cases p1
    clear hi4 ha4 hL4 p04 p14 L24 e34 s5 s4 s3 s2 s1 s0 hpa p0 p1 p03 p13 s03 hd e3 hv ht5 frR fr2
    refine ⟨_, rfl, _, _, rfl, rfl, _, rfl, ite_lt (fun c => ?_) (fun c => ?_)⟩
    · rcases hv5 with ⟨_, rfl⟩ | ⟨w, _⟩
      · exact ⟨_, rfl, rfl, q _⟩
      · exact absurd w (hbad c)
    obtain ⟨_, hvv, en, t0, t1, e0, e1, u1, u2, u3, u4, u5⟩ := hgood c
    rcases hv5 with ⟨w, _⟩ | ⟨w, x, rfl, P5⟩
    · exact absurd hvv w
    obtain ⟨dx, it, at_, rt, asx, bsx, x1, _⟩ := id P5
    refine ⟨_, rfl, _, _, _, _, true, rfl, .own C, .base (.ins x1 PC.cl PC.c1 PC.c2 PC.c3 PC.c4), PC.c5, true, rfl, ?_⟩
    refine ⟨_, rfl, _, rfl, x, L, ini, acc, cu, rfl, P5, w, by omega, by omega, fun q hq e he => by have := u5 q hq e he; omega, true, rfl, ?_⟩
    -- a row of the copy
    have clen := cub_len L25.2
    have hst : sta.toNat < as2.length := by omega
    obtain ⟨a, haa⟩ : ∃ a, as2[sta.toNat]? = some a := ⟨_, List.getElem?_eq_getElem hst⟩
    obtain ⟨bs, row, hbs, hrow, hra, hR⟩ := cub_get L25.2 haa
    have ham : a ∈ as2 := List.mem_of_getElem? haa
    have hbl := hR.len
    have r1 := (hvv.2.2.2.2 row (List.mem_of_getElem? hrow)).1
    have hat : atI (as2.map V.ref) sta = some (.ref a) := by
      rw [show sta = ((sta.toNat : Nat) : Int) by omega]
      exact atI_nat (by rw [List.getElem?_map, haa]; rfl)
    have hbx : ixN (bs.map V.ref).length le = some le.toNat := by
      rw [show le = ((le.toNat : Nat) : Int) by omega]
      exact ixN_at (by rw [List.length_map]; omega)
    obtain ⟨na0, na1, naR⟩ := nA a ham
    have hs5 : ∀ b ∈ [P0, P1, a, R2], ∃ ys, H5 b = some (.lst ys) := fun b hb => by
      rcases List.mem_cons.mp hb with y | y
      · rw [y]; exact ⟨_, p05⟩
      · rcases List.mem_cons.mp y with y | y
        · rw [y]; exact ⟨_, p15⟩
        · rcases List.mem_cons.mp y with y | y
          · rw [y]; exact ⟨_, hra⟩
          · rw [List.mem_singleton.mp y]; exact ⟨_, L25.1⟩
    have out : ∀ b o, H b = some o → b ∉ [P0, P1, a, R2] := fun b o hb z => by
      obtain ⟨o1, o2, o3, o4⟩ := old b o hb
      rcases List.mem_cons.mp z with y | y
      · exact o1 y
      · rcases List.mem_cons.mp y with y | y
        · exact o2 y
        · rcases List.mem_cons.mp y with y | y
          · exact o4 (by rw [y]; exact ham)
          · exact o3 (List.mem_singleton.mp y)
    -- passed[0].append(0), passed[1].append(0)
    refine ⟨_, rfl, pa, _, _, _, rfl, rfl, .of e35, i0, .inl ⟨rfl, _, .of p05⟩, P0, _, _, rfl, rfl, p05, lenI (by omega), ?_⟩
    have k6 : KL [P0, P1, a, R2] H5 (upd H5 P0 (.lst (ini.map V.int ++ [.int 0]))) := kl_upd (by simp)
    have e36 : (upd H5 P0 (.lst (ini.map V.int ++ [.int 0]))) pa = some (.lst [.ref P0, .ref P1, .ref R2]) := by rw [upd_ne npa0]; exact e35
    have p16 : (upd H5 P0 (.lst (ini.map V.int ++ [.int 0]))) P1 = some (.lst (acc.map V.int)) := by rw [upd_ne n01.symm]; exact p15
    have ra6 : (upd H5 P0 (.lst (ini.map V.int ++ [.int 0]))) a = some (.lst (bs.map V.ref)) := by rw [upd_ne na0]; exact hra
    have R6 : (upd H5 P0 (.lst (ini.map V.int ++ [.int 0]))) R2 = some (.lst (as2.map V.ref)) := by rw [upd_ne nR0]; exact L25.1
    generalize upd H5 P0 (.lst (ini.map V.int ++ [.int 0])) = H6 at *
    refine ⟨_, rfl, pa, _, _, _, rfl, rfl, .of e36, i1, .inl ⟨rfl, _, .of p16⟩, P1, _, _, rfl, rfl, p16, lenI (by omega), ?_⟩
    have k7 : KL [P0, P1, a, R2] H5 (upd H6 P1 (.lst (acc.map V.int ++ [.int 0]))) := k6.trans (kl_upd (by simp))
    have e37 : (upd H6 P1 (.lst (acc.map V.int ++ [.int 0]))) pa = some (.lst [.ref P0, .ref P1, .ref R2]) := by rw [upd_ne npa1]; exact e36
    have ra7 : (upd H6 P1 (.lst (acc.map V.int ++ [.int 0]))) a = some (.lst (bs.map V.ref)) := by rw [upd_ne na1]; exact ra6
    have R7 : (upd H6 P1 (.lst (acc.map V.int ++ [.int 0]))) R2 = some (.lst (as2.map V.ref)) := by rw [upd_ne nR1]; exact R6
    generalize upd H6 P1 (.lst (acc.map V.int ++ [.int 0])) = H7 at *
    -- row = passed[2][state]; row[letter] = [0, 0]
    refine ⟨_, rfl, pa, _, _, _, rfl, rfl, .of e37, i2, _, rfl, R2, _, _, .ref a, rfl, rfl, .of R7, hat, ?_⟩
    refine ⟨by show 2 ≤ sizeLine; decide, fun tz htz => ?_⟩
    have s8 := same_new (o := .lst [.int 0, .int 0]) htz
    refine ⟨_, rfl, _, rfl, a, _, le, le.toNat, rfl, rfl, s8 _ _ ra7, hbx, ?_⟩
    have k8 : KL [P0, P1, a, R2] H5 (upd (upd H7 tz (.lst [.int 0, .int 0])) a (.lst ((bs.map V.ref).set le.toNat (.ref tz)))) := (k7.trans (kl_same s8)).trans (kl_upd (by simp))
    have e38 : (upd (upd H7 tz (.lst [.int 0, .int 0])) a (.lst ((bs.map V.ref).set le.toNat (.ref tz)))) pa = some (.lst [.ref P0, .ref P1, .ref R2]) := by rw [upd_ne (npaA a ham)]; exact s8 _ _ e37
    have R8 : (upd (upd H7 tz (.lst [.int 0, .int 0])) a (.lst ((bs.map V.ref).set le.toNat (.ref tz)))) R2 = some (.lst (as2.map V.ref)) := by rw [upd_ne naR.symm]; exact s8 _ _ R7
    generalize upd (upd H7 tz (.lst [.int 0, .int 0])) a (.lst ((bs.map V.ref).set le.toNat (.ref tz))) = H8 at *
    -- entry = passed[2]; entry.append([])
    refine ⟨_, rfl, pa, _, _, _, rfl, rfl, .of e38, i2, ?_⟩
    refine ⟨_, rfl, .inl ⟨rfl, _, .of R8⟩, Nat.zero_le _, fun tw htw => ?_⟩
    have s9 := same_new (o := .lst []) htw
    refine ⟨R2, _, _, rfl, rfl, s9 _ _ R8, by rw [List.length_map]; exact Nat.lt_of_le_of_lt (show as2.length ≤ 1000 by omega) (by decide), ?_⟩
    have k9 : KL [P0, P1, a, R2] H5 (upd (upd H8 tw (.lst [])) R2 (.lst (as2.map V.ref ++ [.ref tw]))) := (k8.trans (kl_same s9)).trans (kl_upd (by simp))
    generalize upd (upd H8 tw (.lst [])) R2 (.lst (as2.map V.ref ++ [.ref tw])) = H9 at *
    have P9 := aut_kl k9 hs5 P5
    have hi9 := k9 _ _ (out _ _ hi) hi5
    have ha9 := k9 _ _ (out _ _ ha) ha5
    have hL9 : LC H9 r as bss cu := ⟨k9 _ _ (out _ _ hL.1) hL5.1, cub_keep (fun b o hb h => by
      obtain ⟨o2, y⟩ := cub_some hL.2 hb
      exact k9 _ _ (out _ _ y) h) hL5.2⟩
    clear k6 k7 k8 k9 e35 e36 e37 e38 s8 s9 ra6 ra7 R6 R7 R8 p16 hs5 out
    obtain ⟨dx, it, at_, rt, asx, bsx, f1, f2, f3, f4, f5⟩ := P9
    have hlx : (asx.map V.ref).length = cu.length := by rw [List.length_map, (cub_len f5).1]
    -- kept
    refine ⟨_, rfl, x, C, dx, _, _, rfl, f1, PC.cl, PC.nR, bf_r _ _ _ _, rt, rfl, ⟨_, .of f4⟩, fun D hD => lc_tup (K := K) (a := rt) (xs := asx.map V.ref) (fun i H' => ∃ (as3 : List Addr) (bss3 : List (List Addr)), CpyC H9 H' D as3 bss3 (cu.take i))
      ⟨[], [], cpyc_zero hD⟩ (fun i H' _ ⟨_, _, z⟩ => .of (z.1 _ _ f4)) ?_ ?_⟩
    · rintro i v H10 hi10 ⟨as3, bss3, C10⟩
      obtain ⟨a3, ha3, rfl⟩ := refs_get hi10
      obtain ⟨bs3, row3, hbs3, hrow3, hra3, hR3⟩ := cub_get f5 ha3
      have hil : i < cu.length := (List.getElem?_eq_some_iff.mp hrow3).1
      have hbl3 : (bs3.map V.ref).length = row3.length := by rw [List.length_map, hR3.len]
      have hrl := (b4 row3 (List.mem_of_getElem? hrow3)).1
      refine ⟨rfl, _, rfl, a3, rfl, ⟨_, .of (C10.1 _ _ hra3)⟩, fun E1 hE => lc_tup (K := K) (a := a3) (xs := bs3.map V.ref) (fun j H' => ∃ cs : List Addr, Cpy H10 H' E1 cs (row3.take j))
        ⟨[], cpy_zero hE⟩ (fun i H' _ ⟨_, z⟩ => .of (z.1 _ _ (C10.1 _ _ hra3))) ?_ ?_⟩
      · rintro j v H11 hj ⟨cs, c11⟩
        obtain ⟨b, hb, rfl⟩ := refs_get hj
        obtain ⟨e, he, hbe⟩ := hR3.get hb
        have hjl : j < row3.length := (List.getElem?_eq_some_iff.mp he).1
        have cl := c11.2.1.2.len
        rw [List.length_take] at cl
        have nE : ∀ t, H11 t = none → E1 ≠ t := fun t ht z => by
          have := c11.2.1.1
          rw [z, ht] at this
          cases this
        refine ⟨rfl, _, rfl, b, _, rfl, .inr (.of (c11.1 _ _ (C10.1 _ _ hbe))), fun t ht => ⟨_, by rw [upd_ne (nE t ht)]; exact c11.2.1.1, by rw [List.length_map]; exact Nat.lt_of_le_of_lt (show cs.length ≤ 1000 by omega) (by decide), cs ++ [t], ?_⟩⟩
        rw [take_get he]
        have := cpy_step (row := e) c11 ht
        rw [List.map_append] at this
        exact this
      · rintro H11 ⟨cs, c11⟩
        rw [hbl3, List.take_length] at c11
        have cl := cub_len C10.2.1.2
        rw [List.length_take] at cl
        obtain ⟨z1, z2⟩ := cpyc_step C10 c11
        rw [List.map_append] at z2
        rw [take_get hrow3]
        exact ⟨_, z1, by rw [List.length_map]; exact Nat.lt_of_le_of_lt (show as3.length ≤ 1000 by omega) (by decide), as3 ++ [E1], bss3 ++ [cs], z2⟩
    · rintro H10 ⟨as3, bss3, C10⟩
      rw [hlx, List.take_length] at C10
      have s10 := C10.1
      -- the three comparisons
      refine ⟨_, rfl, x, C, dx, _, _, rfl, s10 _ _ f1, PC.cl, PC.nI, bf_i _ _ _ _, it, _, rfl, .inr (.of (s10 _ _ f2)), fun t1 ht1 => ?_⟩
      have s11 : Same H10 (upd H10 t1 (.lst (ini.map V.int))) := same_new ht1
      have q11 : (upd H10 t1 (.lst (ini.map V.int))) t1 = some (.lst (ini.map V.int)) := upd_same
      generalize upd H10 t1 (.lst (ini.map V.int)) = H11 at *
      refine ⟨_, rfl, _, _, dp_lst q11, dp_lst (s11 _ _ (s10 _ _ hi9)), shaped_lst _, shaped_lst _, ?_⟩
      rw [eqv_lst, decide_eq_true rfl]
      refine ⟨true, rfl, iteT ?_⟩
      refine ⟨_, rfl, x, C, dx, _, _, rfl, s11 _ _ (s10 _ _ f1), PC.cl, PC.nA, bf_a _ _ _ _, at_, _, rfl, .inr (.of (s11 _ _ (s10 _ _ f3))), fun t2 ht2 => ?_⟩
      have s12 : Same H11 (upd H11 t2 (.lst (acc.map V.int))) := same_new ht2
      have q12 : (upd H11 t2 (.lst (acc.map V.int))) t2 = some (.lst (acc.map V.int)) := upd_same
      generalize upd H11 t2 (.lst (acc.map V.int)) = H12 at *
      refine ⟨_, rfl, _, _, dp_lst q12, dp_lst (s12 _ _ (s11 _ _ (s10 _ _ ha9))), shaped_lst _, shaped_lst _, ?_⟩
      rw [eqv_lst, decide_eq_true rfl]
      refine ⟨true, rfl, iteT ?_⟩
      refine ⟨_, rfl, _, rfl, _, _, dp_one (lc_same (s11.trans s12) C10.2.1), dp_one (lc_same (s10.trans (s11.trans s12)) hL9), shaped_one _, shaped_one _, ?_⟩
      rw [SeqAt.eqv_refl _ (lay_one cu)]
      exact q _
end

theorem all_mk {l : PySem.W.OpenLaw} {w : World} {K : PySem.W.Frag} {h : Heap} {mg : Str → Option Value} {fa : Addr} {f0 f1 f2 f3 f4 f5 f6 f7 f8 f9 f10 f11 f12 cS cI C fI : Addr} (X : K.In h) (G : h.Ns mainGlobals mg) (hfa : mg "law" = some (.ref fa))
    {od0 an0 od1 an1 od2 an2 od3 an3 od4 an4 od5 an5 od6 an6 od7 an7 od8 an8 od9 an9 od10 an10 od11 an11 od12 an12 : Option Addr} {sl0 sl1 sl2 sl3 sl4 sl5 sl6 sl7 sl8 sl9 sl10 sl11 sl12 : Array (Option Value)} {oc0 kV0 dc0 pm0 cd0 ct0 oc1 kV1 dc1 pm1 cd1 ct1 oc2 kV2 dc2 pm2 cd2 ct2 oc3 kV3 dc3 pm3 cd3 ct3 oc4 kV4 dc4 pm4 cd4 ct4 oc5 kV5 dc5 pm5 cd5 ct5 oc6 kV6 dc6 pm6 cd6 ct6 oc7 kV7 dc7 pm7 cd7 ct7 oc8 kV8 dc8 pm8 cd8 ct8 oc9 kV9 dc9 pm9 cd9 ct9 oc10 kV10 dc10 pm10 cd10 ct10 oc11 kV11 dc11 pm11 cd11 ct11 oc12 kV12 dc12 pm12 cd12 ct12 : Value} {odI anI : Option Addr} {slI : Array (Option Value)} {ocI kVI dcI pmI cdI ctI : Value}
    (a0 : PySem.W.nsIn K mainGlobals "check_states" = some (some (.ref f0))) (l0 : K.lookup f0 = some ⟨oc0, od0, .func (PySem.W.fnOf "check_states" "check_states" (defArgs s_check_states) (defBody s_check_states) (defScope s_check_states) .none kV0 dc0 pm0 an0 cd0 ct0), sl0⟩) (c0 : PySem.W.codeIn K cd0 "check_states" = true) (k0 : PySem.W.keepIn K (.ref f0) = true)
    (a1 : PySem.W.nsIn K mainGlobals "_law_draws" = some (some (.ref f1))) (l1 : K.lookup f1 = some ⟨oc1, od1, .func (PySem.W.fnOf "_law_draws" "_law_draws" (defArgs s_law_draws) (defBody s_law_draws) (defScope s_law_draws) .none kV1 dc1 pm1 an1 cd1 ct1), sl1⟩) (c1 : PySem.W.codeIn K cd1 "_law_draws" = true) (k1 : PySem.W.keepIn K (.ref f1) = true)
    (a2 : PySem.W.nsIn K mainGlobals "_law_take" = some (some (.ref f2))) (l2 : K.lookup f2 = some ⟨oc2, od2, .func (PySem.W.fnOf "_law_take" "_law_take" (defArgs s_law_take) (defBody s_law_take) (defScope s_law_take) .none kV2 dc2 pm2 an2 cd2 ct2), sl2⟩) (c2 : PySem.W.codeIn K cd2 "_law_take" = true) (k2 : PySem.W.keepIn K (.ref f2) = true)
    (a3 : PySem.W.nsIn K mainGlobals "_law_is_integer" = some (some (.ref f3))) (l3 : K.lookup f3 = some ⟨oc3, od3, .func (PySem.W.fnOf "_law_is_integer" "_law_is_integer" (defArgs s_law_is_integer) (defBody s_law_is_integer) (defScope s_law_is_integer) .none kV3 dc3 pm3 an3 cd3 ct3), sl3⟩) (c3 : PySem.W.codeIn K cd3 "_law_is_integer" = true) (k3 : PySem.W.keepIn K (.ref f3) = true)
    (a4 : PySem.W.nsIn K mainGlobals "_law_integers" = some (some (.ref f4))) (l4 : K.lookup f4 = some ⟨oc4, od4, .func (PySem.W.fnOf "_law_integers" "_law_integers" (defArgs s_law_integers) (defBody s_law_integers) (defScope s_law_integers) .none kV4 dc4 pm4 an4 cd4 ct4), sl4⟩) (c4 : PySem.W.codeIn K cd4 "_law_integers" = true) (k4 : PySem.W.keepIn K (.ref f4) = true)
    (a5 : PySem.W.nsIn K mainGlobals "_law_ascending" = some (some (.ref f5))) (l5 : K.lookup f5 = some ⟨oc5, od5, .func (PySem.W.fnOf "_law_ascending" "_law_ascending" (defArgs s_law_ascending) (defBody s_law_ascending) (defScope s_law_ascending) .none kV5 dc5 pm5 an5 cd5 ct5), sl5⟩) (c5 : PySem.W.codeIn K cd5 "_law_ascending" = true) (k5 : PySem.W.keepIn K (.ref f5) = true)
    (a6 : PySem.W.nsIn K mainGlobals "_law_automaton" = some (some (.ref f6))) (l6 : K.lookup f6 = some ⟨oc6, od6, .func (PySem.W.fnOf "_law_automaton" "_law_automaton" (defArgs s_law_automaton) (defBody s_law_automaton) (defScope s_law_automaton) .none kV6 dc6 pm6 an6 cd6 ct6), sl6⟩) (c6 : PySem.W.codeIn K cd6 "_law_automaton" = true) (k6 : PySem.W.keepIn K (.ref f6) = true)
    (a7 : PySem.W.nsIn K mainGlobals "_law_copy" = some (some (.ref f7))) (l7 : K.lookup f7 = some ⟨oc7, od7, .func (PySem.W.fnOf "_law_copy" "_law_copy" (defArgs s_law_copy) (defBody s_law_copy) (defScope s_law_copy) .none kV7 dc7 pm7 an7 cd7 ct7), sl7⟩) (c7 : PySem.W.codeIn K cd7 "_law_copy" = true) (k7 : PySem.W.keepIn K (.ref f7) = true)
    (a8 : PySem.W.nsIn K mainGlobals "_law_states" = some (some (.ref f8))) (l8 : K.lookup f8 = some ⟨oc8, od8, .func (PySem.W.fnOf "_law_states" "_law_states" (defArgs s_law_states) (defBody s_law_states) (defScope s_law_states) .none kV8 dc8 pm8 an8 cd8 ct8), sl8⟩) (c8 : PySem.W.codeIn K cd8 "_law_states" = true) (k8 : PySem.W.keepIn K (.ref f8) = true)
    (a9 : PySem.W.nsIn K mainGlobals "_law_is_automaton" = some (some (.ref f9))) (l9 : K.lookup f9 = some ⟨oc9, od9, .func (PySem.W.fnOf "_law_is_automaton" "_law_is_automaton" (defArgs s_law_is_automaton) (defBody s_law_is_automaton) (defScope s_law_is_automaton) .none kV9 dc9 pm9 an9 cd9 ct9), sl9⟩) (c9 : PySem.W.codeIn K cd9 "_law_is_automaton" = true) (k9 : PySem.W.keepIn K (.ref f9) = true)
    (a10 : PySem.W.nsIn K mainGlobals "_law_spoil_list" = some (some (.ref f10))) (l10 : K.lookup f10 = some ⟨oc10, od10, .func (PySem.W.fnOf "_law_spoil_list" "_law_spoil_list" (defArgs s_law_spoil_list) (defBody s_law_spoil_list) (defScope s_law_spoil_list) .none kV10 dc10 pm10 an10 cd10 ct10), sl10⟩) (c10 : PySem.W.codeIn K cd10 "_law_spoil_list" = true) (k10 : PySem.W.keepIn K (.ref f10) = true)
    (a11 : PySem.W.nsIn K mainGlobals "_law_outcome" = some (some (.ref f11))) (l11 : K.lookup f11 = some ⟨oc11, od11, .func (PySem.W.fnOf "_law_outcome" "_law_outcome" (defArgs s_law_outcome) (defBody s_law_outcome) (defScope s_law_outcome) .none kV11 dc11 pm11 an11 cd11 ct11), sl11⟩) (c11 : PySem.W.codeIn K cd11 "_law_outcome" = true) (k11 : PySem.W.keepIn K (.ref f11) = true)
    (a12 : PySem.W.nsIn K mainGlobals "law" = some (some (.ref f12))) (l12 : K.lookup f12 = some ⟨oc12, od12, .func (PySem.W.fnOf "law" "law" (defArgs s_law) (defBody s_law) (defScope s_law) .none kV12 dc12 pm12 an12 cd12 ct12), sl12⟩) (c12 : PySem.W.codeIn K cd12 "law" = true) (k12 : PySem.W.keepIn K (.ref f12) = true)
    (z0 : PySem.W.nsIn K mainGlobals "bool" = some none) (z1 : PySem.W.nsIn K mainGlobals "int" = some none) (z2 : PySem.W.nsIn K mainGlobals "isinstance" = some none) (z3 : PySem.W.nsIn K mainGlobals "len" = some none) (z4 : PySem.W.nsIn K mainGlobals "list" = some none) (z5 : PySem.W.nsIn K mainGlobals "range" = some none) (z6 : PySem.W.nsIn K mainGlobals "tuple" = some none) (xa : PySem.W.nsIn K mainGlobals "InvalidAutomaton" = some (some (.ref cI))) (xb : PySem.W.excIn K cI [.type "ValueError", .type "Exception", .type "BaseException", .type "object"] "ValueError.__new__" = true) (xc : PySem.W.keepIn K (.ref cI) = true) (xd : PySem.W.typeIn K (.ref cI) = some (.type "type")) (xe : PySem.W.subIn K (.ref cI) (.ref cI) = some true) (xf : PySem.W.findIn K (.ref cI) "__getattribute__" = some (some (.builtin "BaseException.__getattribute__"))) (xg : PySem.W.findIn K (.ref cI) "__getattr__" = some none) (xh : PySem.W.subIn K (.ref cI) (.type "BaseException") = some true) (xi : PySem.W.hasDictIn K cI = true) (xj : PySem.W.findIn K (.ref cI) "__class__" = some (some (.builtin "object.__class__"))) (xk : PySem.W.specialIn K (.builtin "object.__class__") "__get__" = some (some (.builtin "getset_descriptor.__get__"))) (xl : PySem.W.takesIn K (.builtin "object.__class__") = some true) (xm : PySem.W.mroIn K cI (.type "object") = some true) (ya : PySem.W.nsIn K mainGlobals "Automaton" = some (some (.ref C))) (yb : PySem.W.plainGet K C Str.empty = true) (yc : PySem.W.hasDictIn K C = true) (yd : PySem.W.plainOver K C = true) (ye : PySem.W.findIn K (.ref C) "__setattr__" = some (some (.builtin "object.__setattr__"))) (yf : PySem.W.findIn K (.ref C) "letters" = some none) (yg : PySem.W.findIn K (.ref C) "initial" = some none) (yh : PySem.W.findIn K (.ref C) "accepting" = some none) (yi : PySem.W.findIn K (.ref C) "rows" = some none) (yj : PySem.W.makesIn K C = true) (yk : PySem.W.findIn K (.ref C) "__init__" = some (some (.ref fI))) (yl : PySem.W.isFn K (.ref fI) = true) (ym : PySem.W.keepIn K (.ref C) = true) (yn : K.lookup fI = some ⟨ocI, odI, .func (PySem.W.fnOf "__init__" "Automaton.__init__" (defArgs s_Automaton_init) (defBody s_Automaton_init) (defScope s_Automaton_init) .none kVI dcI pmI anI cdI ctI), slI⟩) (yo : PySem.W.codeIn K cdI "Automaton.__init__" = true) (yp : PySem.W.keepIn K (.ref fI) = true) (yq : PySem.W.findIn K (.ref C) "__class__" = some (some (.builtin "object.__class__"))) (yr : PySem.W.specialIn K (.builtin "object.__class__") "__get__" = some (some (.builtin "getset_descriptor.__get__"))) (ys : PySem.W.takesIn K (.builtin "object.__class__") = some true) (yt : PySem.W.mroIn K C (.type "object") = some true) (xu : PySem.W.kitOne K (.ref C) (.ref C) = some true) (xy : PySem.W.nsIn K mainGlobals "SynthError" = some (some (.ref cS))) (xz : PySem.W.kitOne K (.ref cI) (.ref cS) = some true) :
    ∃ fd : FuncData, (∀ (s : Shared) (v : Value), BindsTo s fd ⟨[v], []⟩ [("script", v)]) ∧ ∀ base : Heap, K.In base → base.Ns mainGlobals mg → FnOk l.prog w K mg base CX0 6 fa fd ["script"] (spLaw K) := by
  have e := hfa.symm.trans (PySem.W.mg_of X G a12)
  cases e
  have T : Txt K mg := ⟨⟨f0, _, fun_mk (st := s_check_states) l0 c0 k0, PySem.W.mg_of X G a0, (fun_mk (st := s_check_states) l0 c0 k0).binds fun _ _ _ _ _ _ us hl => match us, hl with | [_, _], _ => rfl⟩, ⟨f1, _, fun_mk (st := s_law_draws) l1 c1 k1, PySem.W.mg_of X G a1, (fun_mk (st := s_law_draws) l1 c1 k1).binds fun _ _ _ _ _ _ us hl => match us, hl with | [_, _], _ => rfl⟩, ⟨f2, _, fun_mk (st := s_law_take) l2 c2 k2, PySem.W.mg_of X G a2, (fun_mk (st := s_law_take) l2 c2 k2).binds fun _ _ _ _ _ _ us hl => match us, hl with | [_, _], _ => rfl⟩, ⟨f3, _, fun_mk (st := s_law_is_integer) l3 c3 k3, PySem.W.mg_of X G a3, (fun_mk (st := s_law_is_integer) l3 c3 k3).binds fun _ _ _ _ _ _ us hl => match us, hl with | [_], _ => rfl⟩, ⟨f4, _, fun_mk (st := s_law_integers) l4 c4 k4, PySem.W.mg_of X G a4, (fun_mk (st := s_law_integers) l4 c4 k4).binds fun _ _ _ _ _ _ us hl => match us, hl with | [_, _, _], _ => rfl⟩, ⟨f5, _, fun_mk (st := s_law_ascending) l5 c5 k5, PySem.W.mg_of X G a5, (fun_mk (st := s_law_ascending) l5 c5 k5).binds fun _ _ _ _ _ _ us hl => match us, hl with | [_, _, _], _ => rfl⟩, ⟨f6, _, fun_mk (st := s_law_automaton) l6 c6 k6, PySem.W.mg_of X G a6, (fun_mk (st := s_law_automaton) l6 c6 k6).binds fun _ _ _ _ _ _ us hl => match us, hl with | [_, _, _], _ => rfl⟩, ⟨f7, _, fun_mk (st := s_law_copy) l7 c7 k7, PySem.W.mg_of X G a7, (fun_mk (st := s_law_copy) l7 c7 k7).binds fun _ _ _ _ _ _ us hl => match us, hl with | [_], _ => rfl⟩, ⟨f8, _, fun_mk (st := s_law_states) l8 c8 k8, PySem.W.mg_of X G a8, (fun_mk (st := s_law_states) l8 c8 k8).binds fun _ _ _ _ _ _ us hl => match us, hl with | [_, _], _ => rfl⟩, ⟨f9, _, fun_mk (st := s_law_is_automaton) l9 c9 k9, PySem.W.mg_of X G a9, (fun_mk (st := s_law_is_automaton) l9 c9 k9).binds fun _ _ _ _ _ _ us hl => match us, hl with | [_, _], _ => rfl⟩, ⟨f10, _, fun_mk (st := s_law_spoil_list) l10 c10 k10, PySem.W.mg_of X G a10, (fun_mk (st := s_law_spoil_list) l10 c10 k10).binds fun _ _ _ _ _ _ us hl => match us, hl with | [_, _, _], _ => rfl⟩, ⟨f11, _, fun_mk (st := s_law_outcome) l11 c11 k11, PySem.W.mg_of X G a11, (fun_mk (st := s_law_outcome) l11 c11 k11).binds fun _ _ _ _ _ _ us hl => match us, hl with | [_, _, _, _], _ => rfl⟩, PySem.W.mg_none_of X G z0, PySem.W.mg_none_of X G z1, PySem.W.mg_none_of X G z2, PySem.W.mg_none_of X G z3, PySem.W.mg_none_of X G z4, PySem.W.mg_none_of X G z5, PySem.W.mg_none_of X G z6, ⟨cS, cI, C, fI, _, ⟨PySem.W.mg_of X G xa, xb, xc, xd, xe, ⟨xf, xg, xh, xi, xj, xk, xl, xm⟩⟩, ⟨⟨yb, yc, yd, ye⟩, yf, yg, yh, yi, yq, yr, ys, yt, xu⟩, ⟨yj, yk, yl, ym⟩, PySem.W.mg_of X G ya, fun_mk (st := s_Automaton_init) yn yo yp, (fun_mk (st := s_Automaton_init) yn yo yp).binds fun _ _ _ _ _ _ us hl => match us, hl with | [_, _, _, _, _], _ => rfl, PySem.W.mg_of X G xy, xz⟩⟩
  exact ⟨_, fun s v => .of_eq rfl, fun base _ _ => ok_law (fun_mk (st := s_law) l12 c12 k12) T⟩
end My
open PySem PySem.W PyProof.Rows
set_option maxHeartbeats 0 in
theorem PySem.Challenge.cw_reactivesynth_k16_automaton_holds : PySem.Challenge.rw_reactivesynth_k16_automaton.Holds := by
  w_on; o_law; k_head; (case hw => w_witness2)
  k_fill
  refine L2.walk_of (l := PySem.Challenge.rw_reactivesynth_k16_automaton) (n := 63) (k := 6) (x := "script") (CX := fun _ => L2.CX0) (sp := fun w => My.spLaw _) rfl (by decide) rfl ⟨rfl, by decide, by decide⟩ (fun w h Y => PySem.W.kIn_of Y) ?F (fun _ _ a ns hl _ hS => ⟨a, ns, rfl, hS, hl, fun _ => rfl⟩) (fun _ _ _ _ _ h => h)
  case F =>
    intro w mg fa h KX G hmg
    refine' My.all_mk KX G hmg ?a0 ?l0 ?c0 ?k0 ?a1 ?l1 ?c1 ?k1 ?a2 ?l2 ?c2 ?k2 ?a3 ?l3 ?c3 ?k3 ?a4 ?l4 ?c4 ?k4 ?a5 ?l5 ?c5 ?k5 ?a6 ?l6 ?c6 ?k6 ?a7 ?l7 ?c7 ?k7 ?a8 ?l8 ?c8 ?k8 ?a9 ?l9 ?c9 ?k9 ?a10 ?l10 ?c10 ?k10 ?a11 ?l11 ?c11 ?k11 ?a12 ?l12 ?c12 ?k12 ?z0 ?z1 ?z2 ?z3 ?z4 ?z5 ?z6 ?xa ?xb ?xc ?xd ?xe ?xf ?xg ?xh ?xi ?xj ?xk ?xl ?xm ?ya ?yb ?yc ?yd ?ye ?yf ?yg ?yh ?yi ?yj ?yk ?yl ?ym ?yn ?yo ?yp ?yq ?yr ?ys ?yt ?xu ?xy ?xz
    (case a0 => k_is); (case l0 => k_is); (case c0 => k_is); (case k0 => k_is); (case a1 => k_is); (case l1 => k_is); (case c1 => k_is); (case k1 => k_is); (case a2 => k_is); (case l2 => k_is); (case c2 => k_is); (case k2 => k_is); (case a3 => k_is); (case l3 => k_is); (case c3 => k_is); (case k3 => k_is); (case a4 => k_is); (case l4 => k_is); (case c4 => k_is); (case k4 => k_is); (case a5 => k_is); (case l5 => k_is); (case c5 => k_is); (case k5 => k_is); (case a6 => k_is); (case l6 => k_is); (case c6 => k_is); (case k6 => k_is); (case a7 => k_is); (case l7 => k_is); (case c7 => k_is); (case k7 => k_is); (case a8 => k_is); (case l8 => k_is); (case c8 => k_is); (case k8 => k_is); (case a9 => k_is); (case l9 => k_is); (case c9 => k_is); (case k9 => k_is); (case a10 => k_is); (case l10 => k_is); (case c10 => k_is); (case k10 => k_is); (case a11 => k_is); (case l11 => k_is); (case c11 => k_is); (case k11 => k_is); (case a12 => k_is); (case l12 => k_is); (case c12 => k_is); (case k12 => k_is); (case z0 => k_is); (case z1 => k_is); (case z2 => k_is); (case z3 => k_is); (case z4 => k_is); (case z5 => k_is); (case z6 => k_is); (case xa => first | rfl | k_is); (case xb => first | k_exc | rfl | k_is); (case xc => first | rfl | k_is); (case xd => first | rfl | k_is); (case xe => first | rfl | k_is); (case xf => first | rfl | k_is); (case xg => first | rfl | k_is); (case xh => first | rfl | k_is); (case xi => first | rfl | k_is); (case xj => first | rfl | k_is); (case xk => first | rfl | k_is); (case xl => first | rfl | k_is); (case xm => first | rfl | k_is); (case ya => k_is); (case yb => k_is); (case yc => k_is); (case yd => k_is); (case ye => k_is); (case yf => k_is); (case yg => k_is); (case yh => k_is); (case yi => k_is); (case yj => k_is); (case yk => k_is); (case yl => k_is); (case ym => k_is); (case yn => k_is); (case yo => k_is); (case yp => k_is); (case yq => k_is); (case yr => k_is); (case ys => k_is); (case yt => k_is); (case xu => first | rfl | k_is); (case xy => first | rfl | k_is); (case xz => first | rfl | k_is)
