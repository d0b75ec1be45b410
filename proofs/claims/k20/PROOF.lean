import PyProof.Rows.All
import Wide.All
import OpenK.AllK
import Wide.FinOn
import HandS.ForMost
import HandS.ForExc
import HandS.ExcIs
import HandS.ExcOwn
import HandS.WordsExc
import HandS.TryMany
import HandS.TryOnly
import HandS.Codes
import HandS.IsInst
import HandS.TupAny
import HandS.TupMul
import HandS.SortKw
import KE.KMinKey
import PyProof.WalksMore
import HandS.Dict
import HandS.Style
import HandS.Conv
import HandS.Walk
import HandS.Zip
import PyProof.AutoSeq1
import HandS.Text
import HandS.SetFor
import HandS.Strs
import PySem.Challenge.RW_reactivesynth_k20_hide_and_widen
set_option Elab.async false
set_option linter.all false
set_option maxRecDepth 100000
set_option maxHeartbeats 4000000
namespace Wd
/-- m is the length of a proper border of the first k letters -/
def Bd (w : Nat → Int) (k m : Nat) : Prop := m < k ∧ ∀ i, i < m → w i = w (k - m + i)
/-- .. the greatest -/
def Lg (w : Nat → Int) (k m : Nat) : Prop := Bd w k m ∧ ∀ j, Bd w k j → j ≤ m
theorem Bd.zero {w : Nat → Int} {k : Nat} (h : 0 < k) : Bd w k 0 := ⟨h, fun i hi => absurd hi (Nat.not_lt_zero i)⟩
theorem Bd.down {w : Nat → Int} {k m : Nat} (h : Bd w (k + 1) (m + 1)) : Bd w k m ∧ w m = w k := by
  obtain ⟨h1, h2⟩ := h
  refine ⟨⟨by omega, fun i hi => ?_⟩, ?_⟩
  · have := h2 i (by omega)
    rw [this]
    congr 1
    omega
  · have := h2 m (by omega)
    rw [this]
    congr 1
    omega
theorem Bd.up {w : Nat → Int} {k m : Nat} (h : Bd w k m) (e : w m = w k) : Bd w (k + 1) (m + 1) := by
  obtain ⟨h1, h2⟩ := h
  refine ⟨by omega, fun i hi => ?_⟩
  rcases Nat.lt_or_ge i m with c | c
  · rw [h2 i c]
    congr 1
    omega
  · have : i = m := by omega
    subst this
    rw [e]
    congr 1
    omega
theorem Bd.inner {w : Nat → Int} {k b j : Nat} (h : Bd w k b) (g : Bd w k j) (l : j < b) : Bd w b j := by
  obtain ⟨h1, h2⟩ := h
  obtain ⟨g1, g2⟩ := g
  refine ⟨l, fun i hi => ?_⟩
  rw [g2 i hi, h2 (b - j + i) (by omega)]
  congr 1
  omega
theorem Bd.trans {w : Nat → Int} {k b j : Nat} (h : Bd w k b) (g : Bd w b j) : Bd w k j := by
  obtain ⟨h1, h2⟩ := h
  obtain ⟨g1, g2⟩ := g
  refine ⟨by omega, fun i hi => ?_⟩
  rw [g2 i hi, h2 (b - j + i) (by omega)]
  congr 1
  omega
/-- what the inner loop keeps: b is a border of the first k letters, and no border of the first k + 1 is longer than b + 1 -/
def In (w : Nat → Int) (k b : Nat) : Prop := Bd w k b ∧ ∀ j, Bd w (k + 1) (j + 1) → j ≤ b
theorem In.start {w : Nat → Int} {k b : Nat} (h : Lg w k b) : In w k b := ⟨h.1, fun j hj => h.2 j hj.down.1⟩
theorem In.step {w : Nat → Int} {k b c : Nat} (h : In w k b) (hb : 0 < b) (ne : w k ≠ w b) (g : Lg w b c) : In w k c ∧ c < b := by
  refine ⟨⟨h.1.trans g.1, fun j hj => ?_⟩, g.1.1⟩
  have h1 := h.2 j hj
  obtain ⟨h2, h3⟩ := hj.down
  have : j ≠ b := fun z => ne (by rw [← h3, z])
  exact g.2 j (h.1.inner h2 (by omega))
theorem In.found {w : Nat → Int} {k b : Nat} (h : In w k b) (e : w k = w b) : Lg w (k + 1) (b + 1) := by
  refine ⟨h.1.up e.symm, fun j hj => ?_⟩
  cases j with
  | zero => omega
  | succ j => exact Nat.succ_le_succ (h.2 j hj)
theorem In.none {w : Nat → Int} {k : Nat} (h : In w k 0) (ne : w k ≠ w 0) : Lg w (k + 1) 0 := by
  refine ⟨Bd.zero (by omega), fun j hj => ?_⟩
  cases j with
  | zero => omega
  | succ j =>
    have h1 := h.2 j hj
    have : j = 0 := by omega
    subst this
    exact absurd hj.down.2.symm ne
/-! periods -/
/-- the letters of the word without end that repeats the first n letters -/
def cyc (w : Nat → Int) (n i : Nat) : Int := w (i % n)
def Rp (w : Nat → Int) (n p : Nat) : Prop := ∀ i, cyc w n (i + p) = cyc w n i
theorem Rp.mul {w : Nat → Int} {n p : Nat} (h : Rp w n p) : ∀ k i, cyc w n (i + k * p) = cyc w n i
  | 0, i => by rw [Nat.zero_mul, Nat.add_zero]
  | k + 1, i => by
    rw [Nat.succ_mul, ← Nat.add_assoc, h, h.mul k i]
theorem Rp.mod {w : Nat → Int} {n p i : Nat} (h : Rp w n p) : cyc w n i = cyc w n (i % p) := by
  have := h.mul (i / p) (i % p)
  rw [Nat.mul_comm, Nat.mod_add_div] at this
  exact this
theorem cyc_lt {w : Nat → Int} {n i : Nat} (h : i < n) : cyc w n i = w i := by
  unfold cyc
  rw [Nat.mod_eq_of_lt h]
theorem rp_self (w : Nat → Int) (n : Nat) : Rp w n n := fun i => by
  unfold cyc
  rw [Nat.add_mod_right]
/-- a period of the finite word that divides its length is one of the word without end -/
theorem rp_of {w : Nat → Int} {n p : Nat} (hp : 0 < p) (hd : p ∣ n) (hn : 0 < n) (h : ∀ i, i + p < n → w i = w (i + p)) : Rp w n p := by
  have red : ∀ k i, i + k * p < n → w (i + k * p) = w i := by
    intro k
    induction k with
    | zero => intro i _; rw [Nat.zero_mul, Nat.add_zero]
    | succ k ih =>
      intro i hi
      rw [Nat.succ_mul] at hi ⊢
      rw [← Nat.add_assoc, ← h (i + k * p) (by omega)]
      exact ih i (by omega)
  have toMod : ∀ i, cyc w n i = w (i % p) := by
    intro i
    unfold cyc
    have h1 : i % n < n := Nat.mod_lt _ hn
    have e : i % n % p + (i % n / p) * p = i % n := by
      rw [Nat.mul_comm]
      exact Nat.mod_add_div _ _
    have h2 := red (i % n / p) (i % n % p) (by rw [e]; exact h1)
    rw [e] at h2
    rw [h2, Nat.mod_mod_of_dvd _ hd]
  intro i
  rw [toMod, toMod, Nat.add_mod_right]
/-- the least repetition: r divides n, the word repeats its first r letters, and no shorter one does -/
structure Least (w : Nat → Int) (n r : Nat) : Prop where
  pos : 0 < r
  dvd : r ∣ n
  rp : Rp w n r
  min : ∀ p, 0 < p → p ∣ n → Rp w n p → r ≤ p
theorem least_of {w : Nat → Int} {n b : Nat} (hn : 0 < n) (h : Lg w n b) : Least w n (if n % (n - b) = 0 then n - b else n) := by
  obtain ⟨⟨hb, h1⟩, h2⟩ := h
  have hs : 0 < n - b := by omega
  -- n - b is the least period of the finite word
  have per : ∀ i, i + (n - b) < n → w i = w (i + (n - b)) := fun i hi => by
    have := h1 i (by omega)
    rw [this]
    congr 1
    omega
  have low : ∀ p, 0 < p → p ≤ n → (∀ i, i + p < n → w i = w (i + p)) → n - b ≤ p := fun p hp hpn hq => by
    have := h2 (n - p) ⟨by omega, fun i hi => by
      have := hq i (by omega)
      rw [this]
      congr 1
      omega⟩
    omega
  have fin : ∀ p, Rp w n p → ∀ i, i + p < n → w i = w (i + p) := fun p hp i hi => by
    have := hp i
    rw [cyc_lt hi, cyc_lt (by omega)] at this
    exact this.symm
  -- a shorter repetition makes n - b a repetition
  have key : ∀ p, 0 < p → p ∣ n → p < n → Rp w n p → n % (n - b) = 0 ∧ n - b ≤ p := by
    intro p hp hd hlt hr
    have le := low p hp (by omega) (fin p hr)
    obtain ⟨q, hq⟩ := hd
    have hq2 : 2 ≤ q := by
      rcases Nat.lt_or_ge q 2 with c | c
      · have : q = 0 ∨ q = 1 := by omega
        rcases this with z | z
        · rw [z] at hq; omega
        · rw [z] at hq; omega
      · exact c
    have h2p : 2 * p ≤ n := by
      rw [hq, Nat.mul_comm 2 p]
      exact Nat.mul_le_mul_left p hq2
    have rs : Rp w n (n - b) := by
      intro i
      have e1 : cyc w n (i + (n - b)) = cyc w n (i % p + (n - b)) := by
        have := hr.mul (i / p) (i % p + (n - b))
        rw [← this]
        congr 1
        have := Nat.mod_add_div i p
        rw [Nat.mul_comm (i / p) p]
        omega
      have hm : i % p < p := Nat.mod_lt _ hp
      rw [e1, hr.mod (i := i), cyc_lt (show i % p + (n - b) < n by omega), cyc_lt (show i % p < n by omega)]
      exact (per _ (by omega)).symm
    -- p is a multiple of n - b
    have hmod : p % (n - b) = 0 := by
      rcases Nat.eq_zero_or_pos (p % (n - b)) with z | z
      · exact z
      · have lt : p % (n - b) < n - b := Nat.mod_lt _ hs
        have rm : Rp w n (p % (n - b)) := by
          intro i
          have a := rs.mul (p / (n - b)) (i + p % (n - b))
          have e : i + p % (n - b) + p / (n - b) * (n - b) = i + p := by
            rw [Nat.mul_comm, Nat.add_assoc, Nat.mod_add_div]
          rw [e] at a
          rw [← a]
          exact hr i
        have := low _ z (by omega) (fin _ rm)
        omega
    refine ⟨?_, le⟩
    exact Nat.mod_eq_zero_of_dvd (Nat.dvd_trans (Nat.dvd_of_mod_eq_zero hmod) ⟨q, hq⟩)
  by_cases c : n % (n - b) = 0
  · rw [if_pos c]
    refine ⟨hs, Nat.dvd_of_mod_eq_zero c, rp_of hs (Nat.dvd_of_mod_eq_zero c) hn per, fun p hp hd hr => ?_⟩
    exact low p hp (Nat.le_of_dvd hn hd) (fin p hr)
  · rw [if_neg c]
    refine ⟨hn, Nat.dvd_refl n, rp_self w n, fun p hp hd hr => ?_⟩
    have le := Nat.le_of_dvd hn hd
    rcases Nat.lt_or_ge p n with l | l
    · exact absurd (key p hp hd l hr).1 c
    · exact l
end Wd
/-! ### min(xs, default=d) of a list of ints: own rule -/
namespace MinD
open PySem PySem.W PyProof.Rows
def kwD (d : Value) : List (Str × Value) := [(Str.ofString "default", d)]
theorem nameL : (toString "min" ++ toString ".loop" : String) = "min.loop" := by decide
section
variable {prog : Program} {w : World} {A : Around} {R : Result → Shared → Prop} {I S : Addr} {fp wr : List Addr} {n : Nat} {P : Nat → Value → Prop} {St : Nat → Heap → Prop} {d : Value}
theorem loopD (W : Walks prog w A.in1 I fp wr n P St) (bt : Nat → Nat → Bool) (cm : CmpOf prog w A.in1 .Lt P bt) (nf : S ∉ fp) :
    ∀ (m j : Nat) (u : Shared) (best : Value) (c : Nat), n - (j + 1) = m → j + 1 ≤ n → St (j + 1) u.heap → P (argBest bt j) best →
    u.heap.get? S = some { cls := .type "list", dict := none, data := .seq #[best, best] c, slots := #[] } →
    (∀ v g tk, P (argBest bt (n - 1)) v → (∀ b o, b ∉ wr → b ≠ S → u.heap.get? b = some o → g.get? b = some o) → R (.ok (.ret v)) { u with heap := g, toks := tk }) →
    codeAny (model prog w) A (.builtin "min.loop" ⟨[.ref I, .none, .ref S], kwD d⟩) R u := by
  have nw : S ∉ wr := fun q => nf (W.sub _ q)
  intro m
  induction m with
  | zero =>
    intro j u best c em hj st pb gS out
    have ej : j + 1 = n := by omega
    refine codeAny_builtin PySem.F.entry_min_loop ?_
    rw [Around.under_plainId PySem.F.plain_min_loop _]
    show wpAny _ A.in1 (seqItems? (.ref S) >>= _) _ _ u
    refine wpAny_bind (wpAny_seqItems gS rfl ?_)
    show wpAny _ A.in1 (tryCatch (pyNext (.ref I)) _ >>= _) _ _ u
    refine wpAny_bind (wpAny_tryCatch (W.done u _ _ (ej ▸ st) fun g tk keep => ?_))
    have gS2 := keep S _ nw gS
    show wpAny _ A.in1 (updateSeq S (fun _ => #[]) >>= _) _ _ _
    refine wpAny_bind (wpAny_updateSeq gS2 rfl (wpAny_bind (wpAny_letGo (wpAny_pure ?_))))
    exact out best _ tk (by rw [← ej]; exact pb) fun b o hb hS e => (Heap.get?_update_other _ _ (Ne.symm hS)).trans (keep b o hb e)
  | succ m ih =>
    intro j u best c em hj st pb gS out
    have lt : j + 1 < n := by omega
    refine codeAny_builtin PySem.F.entry_min_loop ?_
    rw [Around.under_plainId PySem.F.plain_min_loop _]
    show wpAny _ A.in1 (seqItems? (.ref S) >>= _) _ _ u
    refine wpAny_bind (wpAny_seqItems gS rfl ?_)
    show wpAny _ A.in1 (tryCatch (pyNext (.ref I)) _ >>= _) _ _ u
    refine wpAny_bind (wpAny_tryCatch (W.item (j + 1) u _ _ lt st fun v g tk pv st2 keep => ?_))
    have gS2 := keep S _ nw gS
    show wpAny _ A.in1 (tryCatch (holding [v, v] (richCompare .Lt v best >>= _)) _ >>= _) _ _ _
    refine wpAny_bind (wpAny_tryCatch (wpAny_holding (wpAny_bind (cm (j + 1) (argBest bt j) v best _ _ _ pv pb ?_))))
    refine wpAny_bind (wpAny_holding (wpAny_truthy_bool (wpAny_bind (wpAny_letGo (wpAny_pure ?_)))))
    cases hb : bt (j + 1) (argBest bt j) with
    | true =>
      simp only [if_true]
      refine wpAny_bind (wpAny_updateSeq gS2 rfl (wpAny_bind (wpAny_letGo ?_)))
      rw [nameL]
      refine wpAny_pure ⟨plainId_quiet PySem.F.plain_min_loop _, ih (j + 1) _ v _ (by omega) lt (W.frame _ _ _ st2 fun b bf o e => ?_) (by simp only [argBest, hb, if_true]; exact pv) (Heap.get?_update_self _ gS2 rfl)
        fun v2 g2 tk2 p2 keep2 => ?_⟩
      · exact (Heap.get?_update_other _ _ (fun q : S = b => nf (by rw [q]; exact bf))).trans e
      · exact out v2 g2 tk2 p2 fun b o hw hS e => keep2 b o hw hS ((Heap.get?_update_other _ _ (Ne.symm hS)).trans (keep b o hw e))
    | false =>
      simp only [Bool.false_eq_true, if_false]
      refine wpAny_bind (wpAny_letGo ?_)
      rw [nameL]
      exact wpAny_pure ⟨plainId_quiet PySem.F.plain_min_loop _, ih (j + 1) _ best c (by omega) lt st2 (by simp only [argBest, hb, Bool.false_eq_true, if_false]; exact pb) gS2 fun v2 g2 tk2 p2 keep2 =>
        out v2 g2 tk2 p2 fun b o hw hS e => keep2 b o hw hS (keep b o hw e)⟩
theorem firstD (W : Walks prog w A.in1 I fp wr n P St) (bt : Nat → Nat → Bool) (cm : CmpOf prog w A.in1 .Lt P bt) (nf : S ∉ fp) {u : Shared} {c : Nat} (st : St 0 u.heap)
    (gS : u.heap.get? S = some { cls := .type "list", dict := none, data := .seq #[] c, slots := #[] })
    (out : ∀ v g tk, (0 < n → P (argBest bt (n - 1)) v) → (n = 0 → v = d) → (∀ b o, b ∉ wr → b ≠ S → u.heap.get? b = some o → g.get? b = some o) → R (.ok (.ret v)) { u with heap := g, toks := tk }) :
    codeAny (model prog w) A (.builtin "min.loop" ⟨[.ref I, .none, .ref S], kwD d⟩) R u := by
  have nw : S ∉ wr := fun q => nf (W.sub _ q)
  refine codeAny_builtin PySem.F.entry_min_loop ?_
  rw [Around.under_plainId PySem.F.plain_min_loop _]
  show wpAny _ A.in1 (seqItems? (.ref S) >>= _) _ _ u
  refine wpAny_bind (wpAny_seqItems gS rfl ?_)
  show wpAny _ A.in1 (tryCatch (pyNext (.ref I)) _ >>= _) _ _ u
  by_cases h0 : 0 < n
  · refine wpAny_bind (wpAny_tryCatch (W.item 0 u _ _ h0 st fun v g tk pv st2 keep => ?_))
    have gS2 := keep S _ nw gS
    show wpAny _ A.in1 (updateSeq S (fun _ => #[v, v]) >>= _) _ _ _
    refine wpAny_bind (wpAny_updateSeq gS2 rfl ?_)
    rw [nameL]
    refine wpAny_pure ⟨plainId_quiet PySem.F.plain_min_loop _, loopD W bt cm nf _ 0 _ v _ rfl h0 (W.frame _ _ _ st2 fun b bf o e => ?_) pv (Heap.get?_update_self _ gS2 rfl) fun v2 g2 tk2 p2 keep2 => ?_⟩
    · exact (Heap.get?_update_other _ _ (fun q : S = b => nf (by rw [q]; exact bf))).trans e
    · exact out v2 g2 tk2 (fun _ => p2) (fun z => by omega) fun b o hw hS e => keep2 b o hw hS ((Heap.get?_update_other _ _ (Ne.symm hS)).trans (keep b o hw e))
  · have e0 : n = 0 := by omega
    refine wpAny_bind (wpAny_tryCatch (W.done u _ _ (by rw [e0]; exact st) fun g tk keep => ?_))
    show wpAny _ A.in1 (rule _ >>= _) _ _ _
    refine wpAny_bind (wpAny_rule (wpAny_pure ?_))
    exact out d g tk (fun z => absurd z h0) (fun _ => rfl) fun b o hw _ e => keep b o hw e
end
section
variable {prog : Program} {w : World} {A : Around} {E : Value → Shared → Prop} {s : Shared} {d : Value}
theorem args_d (a v : Value) : argsOk "min" ⟨[a], kwD v⟩ := by
  unfold argsOk
  kernel_rfl
theorem callD {l : Addr} {xs : Array (Int × Tok)} {Q : Value → Shared → Prop} (hh : A.handled = none) (hl : s.heap.IsList l (intItems xs))
    (h : ∀ v g tk, (0 < xs.size → (intItems xs)[argBest (fun i j => decide (numAt xs i < numAt xs j)) (xs.size - 1)]? = some v) → (xs.size = 0 → v = d) → (∀ b o, s.heap.get? b = some o → g.get? b = some o) → Q v { s with heap := g, toks := tk }) :
    wpAny (model prog w) A (call (.builtin "min") [.ref l] (kwD d)) Q E s := by
  refine kmk_tree PySem.F.kind_min PySem.F.plain_min PySem.F.entry_min (args_d _ _) ?_
  show wpAny _ A.in1 (Builtin.Builtins.bindParams "min" ["key", "default"] 0 ⟨[], kwD d⟩ >>= _) _ _ s
  refine wpAny_bind (wpAny_of_eq (show Builtin.Builtins.bindParams "min" ["key", "default"] 0 ⟨[], kwD d⟩ = pure [none, some d] from rfl) ?_)
  refine wpAny_bind (wpAny_pure ?_)
  refine wpAny_bind (iter_intList hl fun u eu st hfp hlI => ?_)
  subst eu
  refine wpAny_bind (wpAny_newObj_type ?_)
  rw [nameL]
  refine wpAny_pure ⟨plainId_quiet PySem.F.plain_min_loop _, firstD (Walks.list (A := A.in1) hh _ l hlI (intItems xs)) _ (CmpOf.ints_lt (numAt xs) (fun _ _ => intItems_at)) (fun hm => Nat.lt_irrefl _ (hfp _ hm)) ?_ (Heap.get?_push_size _ rfl) fun v g tk p1 p2 keep => ?_⟩
  · exact (Walks.list (prog := prog) (w := w) (A := A.in1) hh _ l hlI (intItems xs)).frame _ _ _ st fun b _ o e => Heap.get?_push_of_some _ e
  · have hsz : (intItems xs).size = xs.size := by simp [intItems]
    refine h v g tk (fun z => by have := p1 (by rw [hsz]; exact z); rw [hsz] at this; exact this) (fun z => p2 (by rw [hsz]; exact z)) (old_kept (l := l) fun b o hb e => ?_)
    exact keep b o hb (Nat.ne_of_lt (Heap.lt_size e)) (Heap.get?_push_of_some _ e)
end
theorem rawD {prog : Program} {w : World} {A : Around} {E : Value → Shared → Prop} {s : Shared} {l : Addr} {its : List Value} {ns : List Int} {z : Int} {t : Tok} {Q : Value → Shared → Prop} (hh : A.handled = none) (hl : s.heap.IsList l its.toArray) (hi : IntsAre its ns)
    (h : ∀ (g : Heap) (tk : Nat) (m : Int) (t' : Tok), (∀ b o, s.heap.get? b = some o → g.get? b = some o) → (ns = [] → m = z) → (ns ≠ [] → m ∈ ns ∧ ∀ y ∈ ns, m ≤ y) → Q (.int m t') { s with heap := g, toks := tk }) :
    wpAny (model prog w) A (call (.builtin "min") [.ref l] (kwD (.int z t))) Q E s := by
  obtain ⟨xs, e⟩ := hi.allInts.items
  have hn : numsOf (intItems xs).toList = ns := by rw [← e]; exact hi.numsOf
  rw [PySem.nums_intItems] at hn
  subst hn
  rw [e] at hl
  refine callD hh hl fun v g tk p1 p2 keep => ?_
  by_cases c : 0 < xs.size
  · obtain ⟨u, rfl⟩ := intItems_at (p1 c)
    obtain ⟨a1, a2⟩ := argBest_lt (numAt xs) (xs.size - 1)
    refine h g tk _ u keep (fun z => ?_) fun _ => ⟨?_, fun y hy => ?_⟩
    · have q : xs.size = 0 := by simpa using congrArg List.length z
      omega
    · rw [PySem.numAt_eq]
      refine PySem.getD_mem ?_
      rw [List.length_map, Array.length_toList]
      exact Nat.lt_of_le_of_lt a1 (by omega)
    · obtain ⟨j, hj, rfl⟩ := PySem.mem_getD hy
      rw [List.length_map, Array.length_toList] at hj
      rw [← PySem.numAt_eq]
      exact a2 j (by omega)
  · rw [p2 (by omega)]
    refine h g tk z t keep (fun _ => rfl) fun q => absurd ?_ q
    have : xs = #[] := Array.eq_empty_of_size_eq_zero (by omega)
    rw [this]
    rfl
end MinD
namespace Bx
open PySem PySem.Spec PyProof.Rows L2
def rMinD (K : PySem.W.Frag) : List V → List V → Hp → VK → Prop := fun xs zs H Q => ∃ (a : Addr) (ns : List Int) (z : Int), xs = [.ref a] ∧ zs = [.int z] ∧ SqL K H a (ns.map V.int) ∧
  ∀ m, (ns = [] → m = z) → (ns ≠ [] → m ∈ ns ∧ ∀ y ∈ ns, m ≤ y) → Q (.int m) H
theorem call_minD {X : Cx} {K : PySem.W.Frag} (h : X.K = K) (hc : X.calm = true) : CallRK X (.builtin "min") ["default"] (rMinD K) := by
  subst h
  intro pins s σ H xs zs us ws Q I r r2 hw
  obtain ⟨a, ns, z, rfl, rfl, hs, q⟩ := hw
  obtain ⟨its, rv, hl, _⟩ := I.list hs
  rw [Vals.ref1 r]
  obtain ⟨u, rfl, ru⟩ := vals1 r2
  obtain ⟨t, rfl⟩ := ru
  exact MinD.rawD (I.ok.hd hc) hl.isList rv.ints fun g tk m t' hk h1 h2 => ⟨.int m, H, I.kept hk, ⟨_, rfl⟩, q m h1 h2⟩
end Bx
namespace Bx
open PySem PySem.Spec PyProof.Rows L2
/-! ### rules over the written part by its name -/
section
variable {X : Cx} {K : PySem.W.Frag}
theorem ix_tupK (h : X.K = K) : IxR X (rIxT K) := h ▸ ix_tup
theorem ix_listK (h : X.K = K) : IxR X (rIxL K) := h ▸ ix_list
theorem ix_seqK (h : X.K = K) : IxR X (rIx K) := h ▸ ix_seq
def rLen (K : PySem.W.Frag) : List V → Hp → VK → Prop := fun xs H Q => ∃ (p : Addr) (ys : List V), xs = [.ref p] ∧ (SqL K H p ys ∨ SqT K H p ys) ∧ Q (.int ys.length) H
theorem call_lenK (h : X.K = K) : CallR X (.builtin "len") (rLen K) := by
  subst h
  exact call_len_seq
def rTupOf (K : PySem.W.Frag) : List V → Hp → VK → Prop := fun xs H Q => ∃ (p : Addr) (ys : List V), xs = [.ref p] ∧ ((SqL K H p ys ∧ ∀ l, H l = none → Q (.ref l) (upd H l (.tup ys))) ∨ (SqT K H p ys ∧ Q (.ref p) H))
theorem call_tuple_ofK (h : X.K = K) : CallR X (.type "tuple") (rTupOf K) := by
  subst h
  exact call_tuple_of
def rLstOf (K : PySem.W.Frag) : List V → Hp → VK → Prop := fun xs H Q => ∃ (p : Addr) (ys : List V), xs = [.ref p] ∧ (SqL K H p ys ∨ SqT K H p ys) ∧ ∀ l, H l = none → Q (.ref l) (upd H l (.lst ys))
theorem call_list_ofK (h : X.K = K) : CallR X (.type "list") (rLstOf K) := by
  subst h
  exact call_list_of
end
end Bx
/-! ### heaps: what one list at d may lose, all else as it was -/
namespace Bx
open PySem PySem.Spec PyProof.Rows L2
def Kp (d : Addr) (H H' : Hp) : Prop := ∀ b o, b ≠ d → H b = some o → H' b = some o
theorem Kp.refl (d : Addr) (H : Hp) : Kp d H H := fun _ _ _ h => h
theorem Kp.trans {d : Addr} {H H1 H2 : Hp} (a : Kp d H H1) (b : Kp d H1 H2) : Kp d H H2 := fun c o n h => b c o n (a c o n h)
theorem Same.kp {d : Addr} {H H' : Hp} (s : Same H H') : Kp d H H' := fun b o _ h => s b o h
theorem Kp.own {d : Addr} {H : Hp} {o : HO} : Kp d H (upd H d o) := fun b _ n h => by rw [upd_ne n]; exact h
theorem same_new {H : Hp} {p : Addr} {o : HO} (h : H p = none) : Same H (upd H p o) := fun b x e => by
  rw [upd_ne (ne_of_none e h)]
  exact e
theorem Kp.new {d p : Addr} {H : Hp} {o : HO} (h : H p = none) : Kp d H (upd H p o) := Same.kp (same_new h)
theorem upd_self {H : Hp} {d : Addr} {o : HO} (h : H d = some o) : upd H d o = H := by
  funext b
  by_cases e : b = d
  · rw [e, upd_same, h]
  · rw [upd_ne e]
/-- a list of ints at d -/
def Ints (H : Hp) (d : Addr) (xs : List Int) : Prop := H d = some (.lst (xs.map V.int))
/-- the draws: some list of ints -/
def Drw (H : Hp) (d : Addr) : Prop := ∃ ds : List Int, H d = some (.lst (ds.map V.int))
theorem Drw.new {H : Hp} {d p : Addr} {o : HO} (h : Drw H d) (n : H p = none) : Drw (upd H p o) d := by
  obtain ⟨ds, e⟩ := h
  exact ⟨ds, same_new n _ _ e⟩
theorem Drw.own {H : Hp} {d : Addr} {ds : List Int} : Drw (upd H d (.lst (ds.map V.int))) d := ⟨ds, upd_same⟩
theorem Drw.same {H H' : Hp} {d : Addr} (h : Drw H d) (s : Same H H') : Drw H' d := by
  obtain ⟨ds, e⟩ := h
  exact ⟨ds, s _ _ e⟩
/-- a tuple of ints -/
def TupI (H : Hp) (a : Addr) (xs : List Int) : Prop := H a = some (.tup (xs.map V.int))
theorem Drw.ne_tup {H : Hp} {d a : Addr} {xs : List V} (h : Drw H d) (e : H a = some (.tup xs)) : a ≠ d := by
  obtain ⟨ds, e2⟩ := h
  exact ne_of e e2 (by intro z; cases z)
/-- a lasso: a pair of tuples of ints -/
def Las (H : Hp) (p : Addr) (h l : List Int) : Prop := ∃ a b, H p = some (.tup [.ref a, .ref b]) ∧ H a = some (.tup (h.map V.int)) ∧ H b = some (.tup (l.map V.int))
theorem Las.keep {H H' : Hp} {d p : Addr} {h l : List Int} (k : Kp d H H') (w : Drw H d) (x : Las H p h l) : Las H' p h l := by
  obtain ⟨a, b, e1, e2, e3⟩ := x
  exact ⟨a, b, k _ _ (w.ne_tup e1) e1, k _ _ (w.ne_tup e2) e2, k _ _ (w.ne_tup e3) e3⟩
theorem Las.same {H H' : Hp} {p : Addr} {h l : List Int} (k : Same H H') (x : Las H p h l) : Las H' p h l := by
  obtain ⟨a, b, e1, e2, e3⟩ := x
  exact ⟨a, b, k _ _ e1, k _ _ e2, k _ _ e3⟩
theorem lenI {xs : List Int} (h : xs.length ≤ 1000000) : (xs.map V.int).length < sizeLine := by
  rw [List.length_map]
  exact Nat.lt_of_le_of_lt h (by decide)
theorem ixN_at {n j : Nat} (h : j < n) : ixN n (j : Int) = some j := by
  unfold ixN
  rw [if_pos (by omega), if_pos (by omega)]
  rfl
theorem set_mapI {xs : List Int} {j : Nat} {v : Int} : (xs.map V.int).set j (.int v) = (xs.set j v).map V.int := by rw [List.map_set]
/-- a list or a tuple of ints -/
def SeqI (H : Hp) (a : Addr) (xs : List Int) : Prop := H a = some (.lst (xs.map V.int)) ∨ H a = some (.tup (xs.map V.int))
theorem SeqI.sq {K : PySem.W.Frag} {H : Hp} {a : Addr} {xs : List Int} (h : SeqI H a xs) : SqL K H a (xs.map V.int) ∨ SqT K H a (xs.map V.int) := by
  rcases h with h | h
  · exact .inl (.of h)
  · exact .inr (.of h)
theorem SeqI.same {H H' : Hp} {a : Addr} {xs : List Int} (k : Same H H') (h : SeqI H a xs) : SeqI H' a xs := by
  rcases h with h | h
  · exact .inl (k _ _ h)
  · exact .inr (k _ _ h)
/-- a pair of lists or tuples of ints -/
def Pr (H : Hp) (p : Addr) (h l : List Int) : Prop := ∃ a b, H p = some (.tup [.ref a, .ref b]) ∧ SeqI H a h ∧ SeqI H b l
theorem Las.pr {H : Hp} {p : Addr} {h l : List Int} (x : Las H p h l) : Pr H p h l := by
  obtain ⟨a, b, e1, e2, e3⟩ := x
  exact ⟨a, b, e1, .inr e2, .inr e3⟩
theorem Pr.same {H H' : Hp} {p : Addr} {h l : List Int} (k : Same H H') (x : Pr H p h l) : Pr H' p h l := by
  obtain ⟨a, b, e1, e2, e3⟩ := x
  exact ⟨a, b, k _ _ e1, e2.same k, e3.same k⟩
/-- an item -/
theorem ixq {K : PySem.W.Frag} {H : Hp} {a : Addr} {xs : List Int} {i : Int} {j : Nat} {v : V} {Q : VK} (h : SeqI H a xs) (ei : i = (j : Int)) (e : (xs.map V.int)[j]? = some v) (q : Q v H) : rIx K (.ref a) (.int i) H Q := by
  subst ei
  rcases h with h | h
  · exact .inl ⟨_, _, _, _, rfl, rfl, .of h, atI_nat e, q⟩
  · exact .inr (.inl ⟨_, _, _, _, rfl, rfl, .of h, atI_nat e, q⟩)
theorem ixq_last {K : PySem.W.Frag} {H : Hp} {a : Addr} {xs : List Int} {z : Int} {Q : VK} (h : SeqI H a xs) (e : xs.getLast? = some z) (q : Q (.int z) H) : rIx K (.ref a) (.int (-1)) H Q := by
  obtain ⟨ys, rfl⟩ := List.getLast?_eq_some_iff.mp e
  have g : atI ((ys ++ [z]).map V.int) (-1) = some (.int z) := by
    rw [List.map_append]
    exact atI_last _ _
  rcases h with h | h
  · exact .inl ⟨_, _, _, _, rfl, rfl, .of h, g, q⟩
  · exact .inr (.inl ⟨_, _, _, _, rfl, rfl, .of h, g, q⟩)
theorem at_map {xs : List Int} {j : Nat} (h : j < xs.length) : (xs.map V.int)[j]? = some (.int (xs.getD j 0)) := by
  rw [List.getElem?_map, List.getElem?_eq_getElem h, List.getD_eq_getElem?_getD, List.getElem?_eq_getElem h]
  rfl
/-! slices -/
section
variable {X : Cx} {K : PySem.W.Frag}
def rSlQ (K : PySem.W.Frag) : V → Option Int → Option Int → Hp → VK → Prop := fun x lo hi H Q => rSlL K x lo hi H Q ∨ rSlA K x lo hi H Q
theorem sl_seqK (h : X.K = K) : SlR X (rSlQ K) := by
  subst h
  exact sl_list.or sl_tupA
theorem sl_tupK (h : X.K = K) : SlR X (rSlA K) := by
  subst h
  exact sl_tupA
theorem sl_listK (h : X.K = K) : SlR X (rSlL K) := by
  subst h
  exact sl_list
theorem op_catK (h : X.K = K) : OpR X (binaryOp .Add) (rCatA K) := by
  subst h
  exact op_catA
theorem op_repTK (h : X.K = K) : OpR X (binaryOp .Mult) (rRepT K) := by
  subst h
  exact op_repT
theorem op_eqDK (h : X.K = K) (hu : X.A.units + 64 < cLine) : OpR X (compareOp .Eq) (rEqD K) := by
  subst h
  exact op_eqD hu
theorem op_neDK (h : X.K = K) (hu : X.A.units + 64 < cLine) : OpR X (compareOp .NotEq) (rNeD K) := by
  subst h
  exact op_neD hu
theorem call_minK (h : X.K = K) (hc : X.calm = true) : CallR X (.builtin "min") (rMin K) := by
  subst h
  exact cr_min hc
theorem call_isiK' (h : X.K = K) : CallR X (.builtin "isinstance") (rIsi K) := by
  subst h
  exact call_isi
end
theorem cut_map {xs : List Int} {lo hi : Option Int} : cutV (xs.map V.int) lo hi = ((xs.drop (HT.sIx xs.length 0 lo)).take (HT.sIx xs.length xs.length hi - HT.sIx xs.length 0 lo)).map V.int := by
  unfold cutV
  rw [List.length_map, List.map_take, List.map_drop]
/-- a slice of a tuple -/
theorem slt {K : PySem.W.Frag} {H : Hp} {a : Addr} {xs ys : List Int} {lo hi : Option Int} {Q : VK} (h : TupI H a xs) (e : (xs.drop (HT.sIx xs.length 0 lo)).take (HT.sIx xs.length xs.length hi - HT.sIx xs.length 0 lo) = ys)
    (q : ∀ (H' : Hp) (p : Addr), Same H H' → TupI H' p ys → Q (.ref p) H') : rSlA K (.ref a) lo hi H Q := by
  subst e
  refine ⟨a, _, rfl, .of h, fun w => ?_, fun _ p hp => q _ p (same_new hp) ?_⟩
  · refine q H a (Same.refl H) ?_
    rw [List.length_map] at w
    rw [w.1, w.2, List.drop_zero, Nat.sub_zero, List.take_length]
    exact h
  · unfold TupI
    rw [upd_same, cut_map]
/-- a slice of a list or tuple -/
theorem slq {K : PySem.W.Frag} {H : Hp} {a : Addr} {xs ys : List Int} {lo hi : Option Int} {Q : VK} (h : SeqI H a xs) (e : (xs.drop (HT.sIx xs.length 0 lo)).take (HT.sIx xs.length xs.length hi - HT.sIx xs.length 0 lo) = ys)
    (q : ∀ (H' : Hp) (p : Addr), Same H H' → SeqI H' p ys → Q (.ref p) H') : rSlQ K (.ref a) lo hi H Q := by
  rcases h with h | h
  · subst e
    refine .inl ⟨a, _, rfl, .of h, fun p hp => q _ p (same_new hp) (.inl ?_)⟩
    rw [upd_same, cut_map]
  · exact .inr (slt h e fun H' p s t => q H' p s (.inr t))
theorem cut_to (xs : List Int) (n : Nat) : (xs.drop (HT.sIx xs.length 0 none)).take (HT.sIx xs.length xs.length (some (n : Int)) - HT.sIx xs.length 0 none) = xs.take n := by
  rw [HT.sIx_none, HT.sIx_nat, List.drop_zero, Nat.sub_zero]
  rcases Nat.le_total n xs.length with c | c
  · rw [Nat.min_eq_left c]
  · rw [Nat.min_eq_right c, List.take_length, List.take_of_length_le c]
theorem cut_from (xs : List Int) {n : Nat} (hn : n ≤ xs.length) : (xs.drop (HT.sIx xs.length 0 (some (n : Int)))).take (HT.sIx xs.length xs.length none - HT.sIx xs.length 0 (some (n : Int))) = xs.drop n := by
  rw [HT.sIx_none, HT.sIx_nat, Nat.min_eq_left hn]
  exact List.take_of_length_le (by rw [List.length_drop]; exact Nat.le_refl _)
theorem slt_to {K : PySem.W.Frag} {H : Hp} {a : Addr} {xs : List Int} {k : Int} {n : Nat} {Q : VK} (h : TupI H a xs) (ek : k = (n : Int))
    (q : ∀ (H' : Hp) (p : Addr), Same H H' → TupI H' p (xs.take n) → Q (.ref p) H') : rSlA K (.ref a) none (some k) H Q := by
  subst ek
  exact slt h (cut_to xs n) q
theorem slt_from {K : PySem.W.Frag} {H : Hp} {a : Addr} {xs : List Int} {k : Int} {n : Nat} {Q : VK} (h : TupI H a xs) (ek : k = (n : Int)) (hn : n ≤ xs.length)
    (q : ∀ (H' : Hp) (p : Addr), Same H H' → TupI H' p (xs.drop n) → Q (.ref p) H') : rSlA K (.ref a) (some k) none H Q := by
  subst ek
  exact slt h (cut_from xs hn) q
theorem slq_to {K : PySem.W.Frag} {H : Hp} {a : Addr} {xs : List Int} {k : Int} {n : Nat} {Q : VK} (h : SeqI H a xs) (ek : k = (n : Int))
    (q : ∀ (H' : Hp) (p : Addr), Same H H' → SeqI H' p (xs.take n) → Q (.ref p) H') : rSlQ K (.ref a) none (some k) H Q := by
  subst ek
  exact slq h (cut_to xs n) q
theorem slq_mid {K : PySem.W.Frag} {H : Hp} {a : Addr} {xs : List Int} {k k2 : Int} {n m : Nat} {Q : VK} (h : SeqI H a xs) (ek : k = (n : Int)) (ek2 : k2 = (m : Int)) (hn : n ≤ xs.length) (hm : m ≤ xs.length)
    (q : ∀ (H' : Hp) (p : Addr), Same H H' → SeqI H' p ((xs.drop n).take (m - n)) → Q (.ref p) H') : rSlQ K (.ref a) (some k) (some k2) H Q := by
  subst ek
  subst ek2
  refine slq h ?_ q
  rw [HT.sIx_nat, HT.sIx_nat, Nat.min_eq_left hn, Nat.min_eq_left hm]
/-- tuple(x) -/
theorem tupq {K : PySem.W.Frag} {H : Hp} {a : Addr} {xs : List Int} {Q : VK} (h : SeqI H a xs) (q : ∀ (H' : Hp) (p : Addr), Same H H' → TupI H' p xs → Q (.ref p) H') : rTupOf K [.ref a] H Q := by
  rcases h with h | h
  · exact ⟨a, _, rfl, .inl ⟨.of h, fun p hp => q _ p (same_new hp) upd_same⟩⟩
  · exact ⟨a, _, rfl, .inr ⟨.of h, q H a (Same.refl H) h⟩⟩
/-- x + y of tuples -/
theorem catq {K : PySem.W.Frag} {H : Hp} {a b : Addr} {xs ys : List Int} {Q : VK} (h : TupI H a xs) (g : TupI H b ys) (hl : xs.length + ys.length ≤ 1000000) (q : ∀ (H' : Hp) (p : Addr), Same H H' → TupI H' p (xs ++ ys) → Q (.ref p) H') : rCatA K (.ref a) (.ref b) H Q := by
  refine ⟨a, b, _, _, rfl, rfl, .of h, .of g, ?_, fun z => ?_, fun _ z => ?_, fun _ _ p hp => ?_⟩
  · rw [List.length_map, List.length_map]
    exact Nat.le_trans hl (by decide)
  · have e : xs = [] := List.map_eq_nil_iff.mp z
    refine q H b (Same.refl H) ?_
    rw [e]
    exact g
  · have e : ys = [] := List.map_eq_nil_iff.mp z
    refine q H a (Same.refl H) ?_
    rw [e, List.append_nil]
    exact h
  · refine q _ p (same_new hp) ?_
    unfold TupI
    rw [upd_same, List.map_append]
/-- a slice of a list -/
theorem sll_from {K : PySem.W.Frag} {H : Hp} {a : Addr} {xs : List Int} {k : Int} {n : Nat} {Q : VK} (h : H a = some (.lst (xs.map V.int))) (ek : k = (n : Int)) (hn : n ≤ xs.length)
    (q : ∀ p, H p = none → Q (.ref p) (upd H p (.lst ((xs.drop n).map V.int)))) : rSlL K (.ref a) (some k) none H Q := by
  subst ek
  refine ⟨a, _, rfl, .of h, fun p hp => ?_⟩
  rw [cut_map, cut_from xs hn]
  exact q p hp
theorem sll_to {K : PySem.W.Frag} {H : Hp} {a : Addr} {xs : List Int} {k : Int} {n : Nat} {Q : VK} (h : H a = some (.lst (xs.map V.int))) (ek : k = (n : Int))
    (q : ∀ p, H p = none → Q (.ref p) (upd H p (.lst ((xs.take n).map V.int)))) : rSlL K (.ref a) none (some k) H Q := by
  subst ek
  refine ⟨a, _, rfl, .of h, fun p hp => ?_⟩
  rw [cut_map, cut_to xs n]
  exact q p hp
/-! == of data -/
theorem eqvAll_int : ∀ xs ys : List Int, PyData.eqvAll (xs.map PyData.int) (ys.map PyData.int) = decide (xs = ys)
  | [], [] => by simp [PyData.eqvAll]
  | [], y :: ys => by simp [PyData.eqvAll]
  | x :: xs, [] => by simp [PyData.eqvAll]
  | x :: xs, y :: ys => by
    rw [List.map_cons, List.map_cons, PyData.eqvAll, eqvAll_int xs ys, PyData.eqv]
    by_cases c : x = y
    · by_cases d : xs = ys
      · simp [c, d]
      · simp [c, d]
    · simp [c]
theorem eqv_tup (xs ys : List Int) : PyData.eqv (.tuple (xs.map PyData.int)) (.tuple (ys.map PyData.int)) = decide (xs = ys) := by
  rw [PyData.eqv]
  exact eqvAll_int xs ys
theorem eqv_lst (xs ys : List Int) : PyData.eqv (.list (xs.map PyData.int)) (.list (ys.map PyData.int)) = decide (xs = ys) := by
  rw [PyData.eqv]
  exact eqvAll_int xs ys
theorem layAll : ∀ xs : List Int, PyData.canLayAll0 (xs.map PyData.int) = true
  | [] => rfl
  | x :: xs => by
    rw [List.map_cons, PyData.canLayAll0, layAll xs]
    rfl
theorem depAll : ∀ xs : List Int, PyData.depthAll (xs.map PyData.int) = 0
  | [] => by simp [PyData.depthAll]
  | x :: xs => by
    rw [List.map_cons, PyData.depthAll, depAll xs]
    simp [PyData.depth]
theorem shaped_tup (xs : List Int) : SeqAt.shaped (.tuple (xs.map PyData.int)) = true := by
  unfold SeqAt.shaped
  rw [PyData.canLay0, layAll, PyData.depth, depAll]
  rfl
theorem shaped_lst (xs : List Int) : SeqAt.shaped (.list (xs.map PyData.int)) = true := by
  unfold SeqAt.shaped
  rw [PyData.canLay0, layAll, PyData.depth, depAll]
  rfl
theorem dpAll_int {K : PySem.W.Frag} {H : Hp} : ∀ xs : List Int, DpAll K H (xs.map V.int) (xs.map PyData.int)
  | [] => .nil
  | x :: xs => .cons (.int x) (dpAll_int xs)
theorem dp_lst {K : PySem.W.Frag} {H : Hp} {a : Addr} {xs : List Int} (h : H a = some (.lst (xs.map V.int))) : Dp K H (.ref a) (.list (xs.map PyData.int)) := .lst (.of h) (dpAll_int xs)
theorem dp_tup {K : PySem.W.Frag} {H : Hp} {a : Addr} {xs : List Int} (h : TupI H a xs) : Dp K H (.ref a) (.tuple (xs.map PyData.int)) := .tup (.of h) (dpAll_int xs)
theorem ite_ne {x y : Int} {A B : Prop} (h1 : x ≠ y → A) (h2 : x = y → B) : if (!decide (V.int x = V.int y)) = true then A else B := by
  by_cases c : x = y
  · rw [c, decide_eq_true rfl]
    exact iteF (h2 c)
  · rw [decide_eq_false (fun z => c (V.int.inj z))]
    exact iteT (h1 c)
theorem ite_eq {x y : Int} {A B : Prop} (h1 : x = y → A) (h2 : x ≠ y → B) : if decide (V.int x = V.int y) = true then A else B := by
  by_cases c : x = y
  · rw [c, decide_eq_true rfl]
    exact iteT (h1 c)
  · rw [decide_eq_false (fun z => c (V.int.inj z))]
    exact iteF (h2 c)
theorem ite_lt {x y : Int} {A B : Prop} (h1 : x < y → A) (h2 : y ≤ x → B) : if decide (x < y) = true then A else B := by
  by_cases c : x < y
  · rw [decide_eq_true c]
    exact iteT (h1 c)
  · rw [decide_eq_false c]
    exact iteF (h2 (by omega))
/-! ### the letters of a word -/
def wat (h l : List Int) (t : Nat) : Int := if t < h.length then h.getD t 0 else l.getD ((t - h.length) % l.length) 0
theorem wat_head {h l : List Int} {t : Nat} (c : t < h.length) : (h.map V.int)[t]? = some (.int (wat h l t)) := by
  unfold wat
  rw [if_pos c, List.getElem?_map, List.getElem?_eq_getElem c, List.getD_eq_getElem?_getD, List.getElem?_eq_getElem c]
  rfl
theorem wat_loop {h l : List Int} {t : Nat} (c : ¬ t < h.length) (n : l ≠ []) : (l.map V.int)[(t - h.length) % l.length]? = some (.int (wat h l t)) := by
  have hl : 0 < l.length := List.length_pos_iff.mpr n
  have c2 : (t - h.length) % l.length < l.length := Nat.mod_lt _ hl
  unfold wat
  rw [if_neg c, List.getElem?_map, List.getElem?_eq_getElem c2, List.getD_eq_getElem?_getD, List.getElem?_eq_getElem c2]
  rfl
theorem ix_mod {t n m : Nat} (h : n ≤ t) : ((t : Int) - (n : Int)) % (m : Int) = (((t - n) % m : Nat) : Int) := by
  have e : ((t : Int) - (n : Int)) = ((t - n : Nat) : Int) := by omega
  rw [e]
  rfl
/-! ### promises of the helpers -/
def spTake : Sp := fun vs H Q _ => ∃ (d : Addr) (n : Int), vs = [.ref d, .int n] ∧ Drw H d ∧ 0 < n ∧
  ∀ (r : Int) (ds : List Int), 0 ≤ r → r < n → Q (.int r) (upd H d (.lst (ds.map V.int)))
def spDraws (K : PySem.W.Frag) : Sp := fun vs H Q _ => ∃ (a : Addr) (ns : List Int) (c : Nat), vs = [.ref a, .int c] ∧ SqL K H a (ns.map V.int) ∧ c ≤ 1000 ∧
  ∀ (H' : Hp) (d : Addr), Same H H' → H d = none → Drw H' d → Q (.ref d) H'
def spAt : Sp := fun vs H Q _ => ∃ (p : Addr) (h l : List Int) (t : Nat), vs = [.ref p, .int t] ∧ Pr H p h l ∧ l ≠ [] ∧ Q (.int (wat h l t)) H
def spLasso : Sp := fun vs H Q _ => ∃ (d : Addr) (n : Int) (m : Nat), vs = [.ref d, .int n, .int m] ∧ Drw H d ∧ 0 < n ∧ 0 < m ∧ m ≤ 1000 ∧
  ∀ (H' : Hp) (p : Addr) (h l : List Int), Kp d H H' → Drw H' d → Las H' p h l → h.length ≤ m → l ≠ [] → l.length ≤ m → (∀ x ∈ h, 0 ≤ x ∧ x < n) → (∀ x ∈ l, 0 ≤ x ∧ x < n) → Q (.ref p) H'
/-- v says where f and g first differ below n -/
def IsDiff (f g : Nat → Int) (n : Nat) (v : V) : Prop := (v = .non ∧ ∀ t < n, f t = g t) ∨ ∃ t, t < n ∧ v = .int (t : Nat) ∧ f t ≠ g t ∧ ∀ s < t, f s = g s
theorem IsDiff.uniq {f g : Nat → Int} {n : Nat} {v u : V} (a : IsDiff f g n v) (b : IsDiff f g n u) : v = u := by
  rcases a with ⟨rfl, a⟩ | ⟨t, ht, rfl, a1, a2⟩
  · rcases b with ⟨rfl, b⟩ | ⟨s, hs, rfl, b1, b2⟩
    · rfl
    · exact absurd (a s hs) b1
  · rcases b with ⟨rfl, b⟩ | ⟨s, hs, rfl, b1, b2⟩
    · exact absurd (b t ht) a1
    · rcases Nat.lt_trichotomy t s with c | c | c
      · exact absurd (b2 t c) a1
      · rw [c]
      · exact absurd (a2 s c) b1
theorem IsDiff.swap {f g : Nat → Int} {n : Nat} {v : V} (a : IsDiff f g n v) : IsDiff g f n v := by
  rcases a with ⟨rfl, a⟩ | ⟨t, ht, rfl, a1, a2⟩
  · exact .inl ⟨rfl, fun t h => (a t h).symm⟩
  · exact .inr ⟨t, ht, rfl, a1.symm, fun s h => (a2 s h).symm⟩
def dfn (h1 l1 h2 l2 : List Int) : Nat := max h1.length h2.length + l1.length + l2.length
def spFd : Sp := fun vs H Q _ => ∃ (p q : Addr) (h1 l1 h2 l2 : List Int), vs = [.ref p, .ref q] ∧ Las H p h1 l1 ∧ Las H q h2 l2 ∧ l1 ≠ [] ∧ l2 ≠ [] ∧ dfn h1 l1 h2 l2 ≤ 1000000 ∧
  ∀ v, IsDiff (wat h1 l1) (wat h2 l2) (dfn h1 l1 h2 l2) v → Q v H
theorem max_if (a b : Nat) : (if ((b : Nat) : Int) > (a : Int) then (b : Int) else (a : Int)) = ((max a b : Nat) : Int) := by
  by_cases h : ((b : Nat) : Int) > (a : Int)
  · rw [if_pos h]
    omega
  · rw [if_neg h]
    omega
/-- the letters of a list, by places -/
def lw (l : List Int) : Nat → Int := fun i => l.getD i 0
def spPeriod : Sp := fun vs H Q _ => ∃ (a : Addr) (l : List Int), vs = [.ref a] ∧ SeqI H a l ∧ l ≠ [] ∧ l.length ≤ 1000000 ∧
  ∀ (H' : Hp) (r : Nat), Same H H' → Wd.Least (lw l) l.length r → Q (.int r) H'
/-- the normal form (h', l') of (h, l) -/
structure Short (h l h' l' : List Int) : Prop where
  ne : l' ≠ []
  same : ∀ t, wat h' l' t = wat h l t
  hl : h'.length ≤ h.length
  ll : l'.length ≤ l.length
  last : h' ≠ [] → h'.getLast? ≠ l'.getLast?
  prim : ∀ p, 0 < p → p < l'.length → p ∣ l'.length → ∃ i, i + p < l'.length ∧ lw l' i ≠ lw l' (i + p)
  memH : ∀ x ∈ h', x ∈ h
  memL : ∀ x ∈ l', x ∈ l
/-- the letter of the repeated word at any whole number of turns from where it begins -/
def bk (l : List Int) (r : Nat) (z : Int) : Int := lw l ((z % (r : Int)).toNat)
def rot (l : List Int) (r c : Nat) : List Int := (l.drop c).take (r - c) ++ l.take c
theorem rot_len {l : List Int} {r c : Nat} (hc : c < r) (hr : r ≤ l.length) : (rot l r c).length = r := by
  unfold rot
  rw [List.length_append, List.length_take, List.length_drop, List.length_take]
  omega
theorem lw_get {l : List Int} {i : Nat} (h : i < l.length) : l[i]? = some (lw l i) := by
  unfold lw
  rw [List.getD_eq_getElem?_getD, List.getElem?_eq_getElem h]
  rfl
theorem lw_of {l : List Int} {i : Nat} {x : Int} (h : l[i]? = some x) : lw l i = x := by
  unfold lw
  rw [List.getD_eq_getElem?_getD, h]
  rfl
theorem rot_at {l : List Int} {r c j : Nat} (hc : c < r) (hr : r ≤ l.length) (hj : j < r) : lw (rot l r c) j = lw l ((j + c) % r) := by
  apply lw_of
  unfold rot
  have e1 : ((l.drop c).take (r - c)).length = r - c := by
    rw [List.length_take, List.length_drop]
    omega
  rcases Nat.lt_or_ge j (r - c) with h | h
  · rw [List.getElem?_append_left (by rw [e1]; exact h), List.getElem?_take, if_pos h, List.getElem?_drop, Nat.mod_eq_of_lt (by omega), Nat.add_comm c j]
    exact lw_get (by omega)
  · rw [List.getElem?_append_right (by rw [e1]; exact h), e1, List.getElem?_take, if_pos (by omega)]
    have e2 : (j + c) % r = j - (r - c) := by
      rw [Nat.mod_eq_sub_mod (by omega), Nat.mod_eq_of_lt (by omega)]
      omega
    rw [e2]
    exact lw_get (by omega)
theorem bk_shift {l : List Int} {r : Nat} {a b z : Int} (h : a = b + r * z) : bk l r a = bk l r b := by
  unfold bk
  rw [h, Int.add_mul_emod_self_left]
theorem bk_nat {l : List Int} {r t : Nat} : bk l r (t : Int) = lw l (t % r) := rfl
theorem least_le {w : Nat → Int} {n r : Nat} (hn : 0 < n) (L : Wd.Least w n r) : r ≤ n := Nat.le_of_dvd hn L.dvd
/-- the letters of l repeated, by the least repetition -/
theorem cyc_least {l : List Int} {r : Nat} (hn : 0 < l.length) (L : Wd.Least (lw l) l.length r) (i : Nat) : lw l (i % l.length) = bk l r (i : Int) := by
  have h1 : Wd.cyc (lw l) l.length i = Wd.cyc (lw l) l.length (i % r) := L.rp.mod
  have h2 : Wd.cyc (lw l) l.length (i % r) = lw l (i % r) := Wd.cyc_lt (Nat.lt_of_lt_of_le (Nat.mod_lt _ L.pos) (least_le hn L))
  rw [bk_nat, ← h2, ← h1]
  rfl
theorem cut_lt {r : Nat} (hr : 0 < r) (z : Int) : (z % (r : Int)).toNat < r := by
  have h1 := Int.emod_nonneg z (show (r : Int) ≠ 0 by omega)
  have h2 := Int.emod_lt_of_pos z (show (0 : Int) < (r : Int) by omega)
  omega
theorem cut_int {r : Nat} (hr : 0 < r) (z : Int) : (((z % (r : Int)).toNat : Nat) : Int) = z - r * (z / r) := by
  have h1 := Int.emod_nonneg z (show (r : Int) ≠ 0 by omega)
  rw [Int.toNat_of_nonneg h1, Int.emod_def]
theorem rot_bk {l : List Int} {r : Nat} (hr0 : 0 < r) (hr : r ≤ l.length) (z : Int) (j : Nat) : lw (rot l r (z % (r : Int)).toNat) (j % r) = bk l r ((j : Int) + z) := by
  rw [rot_at (cut_lt hr0 z) hr (Nat.mod_lt _ hr0), Nat.mod_add_mod]
  have h : bk l r (((j + (z % (r : Int)).toNat : Nat)) : Int) = bk l r ((j : Int) + z) := bk_shift (z := -(z / r)) (by
    rw [Int.natCast_add, cut_int hr0, Int.mul_neg]
    omega)
  rw [← h]
  rfl
theorem short_of {h l : List Int} {r k : Nat} (hne : l ≠ []) (L : Wd.Least (lw l) l.length r) (hk : k ≤ h.length)
    (hB : ∀ t, k ≤ t → t < h.length → lw h t = bk l r ((t : Int) - (h.length : Int))) (hX : k = 0 ∨ lw h (k - 1) ≠ bk l r ((k : Int) - 1 - (h.length : Int))) :
    Short h l (h.take k) (rot l r (((k : Int) - (h.length : Int)) % (r : Int)).toNat) := by
  have hn : 0 < l.length := List.length_pos_iff.mpr hne
  have hr0 := L.pos
  have hr := least_le hn L
  have hlen := rot_len (cut_lt hr0 ((k : Int) - (h.length : Int))) hr
  have htk : (h.take k).length = k := by
    rw [List.length_take]
    omega
  refine ⟨fun z => ?_, fun t => ?_, by rw [htk]; exact hk, by rw [hlen]; exact hr, fun hh => ?_, fun p hp hpl hpd => ?_, fun x hx => List.mem_of_mem_take hx, fun x hx => ?_⟩
  · rw [z] at hlen
    have : (0 : Nat) = r := hlen
    omega
  · unfold wat
    rw [htk, hlen]
    by_cases c : t < k
    · rw [if_pos c, if_pos (by omega), List.getD_eq_getElem?_getD, List.getD_eq_getElem?_getD, List.getElem?_take, if_pos c]
    · rw [if_neg c]
      have e1 := rot_bk (l := l) hr0 hr ((k : Int) - (h.length : Int)) (t - k)
      have e2 : ((t - k : Nat) : Int) + ((k : Int) - (h.length : Int)) = (t : Int) - (h.length : Int) := by omega
      rw [e2] at e1
      show lw _ _ = _
      rw [e1]
      by_cases d : t < h.length
      · rw [if_pos d]
        exact (hB t (by omega) d).symm
      · rw [if_neg d]
        have e3 : (t : Int) - (h.length : Int) = ((t - h.length : Nat) : Int) := by omega
        rw [e3]
        exact (cyc_least hn L _).symm
  · have hk0 : k ≠ 0 := fun z => hh (by rw [z]; rfl)
    rcases hX with z | z
    · exact absurd z hk0
    · rw [List.getLast?_eq_getElem?, List.getLast?_eq_getElem?, htk, hlen]
      rw [List.getElem?_take, if_pos (by omega), lw_get (show k - 1 < h.length by omega), lw_get (show r - 1 < (rot l r _).length by rw [hlen]; omega)]
      intro q
      refine z ?_
      rw [Option.some.inj q]
      have e1 := rot_bk (l := l) hr0 hr ((k : Int) - (h.length : Int)) (r - 1)
      rw [Nat.mod_eq_of_lt (show r - 1 < r by omega)] at e1
      rw [e1]
      exact bk_shift (z := 1) (by omega)
  · rw [hlen] at hpl hpd ⊢
    apply Classical.byContradiction
    intro hno
    have hall : ∀ i, i + p < r → lw (rot l r (((k : Int) - (h.length : Int)) % (r : Int)).toNat) i = lw (rot l r (((k : Int) - (h.length : Int)) % (r : Int)).toNat) (i + p) := fun i hi =>
      Classical.byContradiction fun q => hno ⟨i, hi, q⟩
    have hrp := Wd.rp_of hp hpd hr0 hall
    have key : ∀ i, Wd.cyc (lw l) l.length i = Wd.cyc (lw (rot l r (((k : Int) - (h.length : Int)) % (r : Int)).toNat)) r (i + (r - (((k : Int) - (h.length : Int)) % (r : Int)).toNat)) := by
      intro i
      have hc := cut_lt hr0 ((k : Int) - (h.length : Int))
      have a1 : Wd.cyc (lw l) l.length i = bk l r (i : Int) := cyc_least hn L i
      have a2 := rot_at hc hr (Nat.mod_lt (i + (r - (((k : Int) - (h.length : Int)) % (r : Int)).toNat)) hr0)
      rw [a1]
      show _ = lw _ (_ % r)
      rw [a2, Nat.mod_add_mod, show i + (r - (((k : Int) - (h.length : Int)) % (r : Int)).toNat) + (((k : Int) - (h.length : Int)) % (r : Int)).toNat = i + r by omega, Nat.add_mod_right]
      rfl
    have hR : Wd.Rp (lw l) l.length p := fun i => by
      rw [key, key, Nat.add_right_comm]
      exact hrp _
    have := L.min p hp (Nat.dvd_trans hpd L.dvd) hR
    omega
  · unfold rot at hx
    rcases List.mem_append.mp hx with z | z
    · exact List.mem_of_mem_drop (List.mem_of_mem_take z)
    · exact List.mem_of_mem_take z
theorem rp_mod {w : Nat → Int} {n p q : Nat} (hp : Wd.Rp w n p) (hq : Wd.Rp w n q) : Wd.Rp w n (q % p) := fun i => by
  have a := hp.mul (q / p) (i + q % p)
  rw [Nat.mul_comm, Nat.add_assoc, Nat.mod_add_div] at a
  rw [← a]
  exact hq i
theorem rp_gcd {w : Nat → Int} {n : Nat} (p q : Nat) : Wd.Rp w n p → Wd.Rp w n q → Wd.Rp w n (Nat.gcd p q) := by
  induction p, q using Nat.gcd.induction with
  | H0 q => intro _ hq; rw [Nat.gcd_zero_left]; exact hq
  | H1 p q hp ih => intro h1 h2; rw [Nat.gcd_rec]; exact ih (rp_mod h1 h2) h1
/-- the normal form -/
structure Nrm (h l : List Int) : Prop where
  ne : l ≠ []
  last : h ≠ [] → h.getLast? ≠ l.getLast?
  prim : ∀ p, 0 < p → p < l.length → p ∣ l.length → ∃ i, i + p < l.length ∧ lw l i ≠ lw l (i + p)
theorem Short.nrm {h l h' l' : List Int} (s : Short h l h' l') : Nrm h' l' := ⟨s.ne, s.last, s.prim⟩
theorem Nrm.pos {h l : List Int} (N : Nrm h l) : 0 < l.length := List.length_pos_iff.mpr N.ne
theorem wat_cyc {h l : List Int} {t : Nat} (c : h.length ≤ t) : wat h l t = Wd.cyc (lw l) l.length (t - h.length) := by
  unfold wat
  rw [if_neg (by omega)]
  rfl
/-- every period that the word has from some turn on is a multiple of the loop's length -/
theorem Nrm.dvd {h l : List Int} (N : Nrm h l) {p M : Nat} (hP : ∀ t, M ≤ t → wat h l (t + p) = wat h l t) : l.length ∣ p := by
  have hr := N.pos
  have hRp : Wd.Rp (lw l) l.length p := fun i => by
    have self := Wd.rp_self (lw l) l.length
    have e1 := self.mul M i
    have e2 := self.mul M (i + p)
    have hM : M ≤ M * l.length := Nat.le_mul_of_pos_right M hr
    have q := hP (h.length + (i + M * l.length)) (by omega)
    rw [wat_cyc (by omega), wat_cyc (by omega)] at q
    rw [show h.length + (i + M * l.length) + p - h.length = i + p + M * l.length by omega, show h.length + (i + M * l.length) - h.length = i + M * l.length by omega, e1, e2] at q
    exact q
  have hg := rp_gcd p l.length hRp (Wd.rp_self (lw l) l.length)
  have gd : Nat.gcd p l.length ∣ l.length := Nat.gcd_dvd_right p l.length
  have gp : 0 < Nat.gcd p l.length := Nat.gcd_pos_of_pos_right p hr
  have gl := Nat.le_of_dvd hr gd
  rcases Nat.lt_or_ge (Nat.gcd p l.length) l.length with c | c
  · obtain ⟨i, hi, hne⟩ := N.prim _ gp c gd
    refine absurd ?_ hne
    have := hg i
    rw [Wd.cyc_lt hi, Wd.cyc_lt (by omega)] at this
    exact this.symm
  · have e : Nat.gcd p l.length = l.length := by omega
    rw [← e]
    exact Nat.gcd_dvd_left p l.length
theorem wat_per {h l : List Int} {t : Nat} (c : h.length ≤ t) : wat h l (t + l.length) = wat h l t := by
  rw [wat_cyc c, wat_cyc (by omega), show t + l.length - h.length = (t - h.length) + l.length by omega]
  exact Wd.rp_self (lw l) l.length _
theorem last_at {l : List Int} (n : l ≠ []) : l.getLast? = some (lw l (l.length - 1)) := by
  have := List.length_pos_iff.mpr n
  rw [List.getLast?_eq_getElem?]
  exact lw_get (by omega)
theorem Nrm.head_le {h l g m : List Int} (N : Nrm h l) (hs : ∀ t, wat h l t = wat g m t) (e : l.length = m.length) : h.length ≤ g.length := by
  rcases Nat.lt_or_ge g.length h.length with c | c
  · exfalso
    have hne : h ≠ [] := List.length_pos_iff.mp (by omega)
    refine N.last hne ?_
    rw [last_at hne, last_at N.ne]
    congr 1
    have hp := N.pos
    have a1 : wat h l (h.length - 1) = lw h (h.length - 1) := by
      unfold wat
      rw [if_pos (by omega)]
      rfl
    have a2 : wat h l (h.length - 1 + l.length) = lw l (l.length - 1) := by
      rw [wat_cyc (by omega), show h.length - 1 + l.length - h.length = l.length - 1 by omega, Wd.cyc_lt (by omega)]
    rw [← a1, ← a2, hs, hs, e]
    exact (wat_per (by omega)).symm
  · exact c
theorem Nrm.uniq {h l g m : List Int} (N : Nrm h l) (M : Nrm g m) (hs : ∀ t, wat h l t = wat g m t) : h = g ∧ l = m := by
  have d1 : l.length ∣ m.length := N.dvd (M := g.length) fun t ht => by
    rw [hs, hs]
    exact wat_per ht
  have d2 : m.length ∣ l.length := M.dvd (M := h.length) fun t ht => by
    rw [← hs, ← hs]
    exact wat_per ht
  have e : l.length = m.length := Nat.dvd_antisymm d1 d2
  have e2 : h.length = g.length := Nat.le_antisymm (N.head_le hs e) (M.head_le (fun t => (hs t).symm) e.symm)
  refine ⟨List.ext_getElem e2 fun i h1 h2 => ?_, List.ext_getElem e fun i h1 h2 => ?_⟩
  · have := hs i
    unfold wat at this
    rw [if_pos h1, if_pos h2, List.getD_eq_getElem?_getD, List.getD_eq_getElem?_getD, List.getElem?_eq_getElem h1, List.getElem?_eq_getElem h2] at this
    exact this
  · have := hs (h.length + i)
    rw [wat_cyc (by omega), wat_cyc (by omega), show h.length + i - h.length = i by omega, show h.length + i - g.length = i by omega, Wd.cyc_lt h1, Wd.cyc_lt h2] at this
    have a1 := lw_get h1
    have a2 := lw_get h2
    rw [List.getElem?_eq_getElem h1] at a1
    rw [List.getElem?_eq_getElem h2] at a2
    rw [Option.some.inj a1, Option.some.inj a2, this]
theorem at_last {l : List Int} (n : l ≠ []) : atI (l.map V.int) (-1) = some (.int (lw l (l.length - 1))) := by
  have hp := List.length_pos_iff.mpr n
  have e : l.map V.int = (l.dropLast.map V.int) ++ [.int (l.getLast n)] := by
    rw [← List.map_singleton, ← List.map_append, List.dropLast_concat_getLast]
  rw [e, atI_last]
  have q := last_at n
  rw [List.getLast?_eq_getLast n] at q
  rw [Option.some.inj q]
/-! repetition of a text -/
theorem flat_at {w : List Int} : ∀ (k i : Nat), i < k * w.length → (List.replicate k w).flatten[i]? = w[i % w.length]?
  | 0, i, h => by
    rw [Nat.zero_mul] at h
    exact absurd h (Nat.not_lt_zero i)
  | k + 1, i, h => by
    rw [List.replicate_succ, List.flatten_cons]
    rcases Nat.lt_or_ge i w.length with c | c
    · rw [List.getElem?_append_left c, Nat.mod_eq_of_lt c]
    · rw [List.getElem?_append_right c, flat_at k (i - w.length) (by rw [Nat.succ_mul] at h; omega), ← Nat.mod_eq_sub_mod c]
theorem flat_per {l : List Int} {p k : Nat} (hp : 0 < p) (hpl : p ≤ l.length) (e : l = (List.replicate k (l.take p)).flatten) (hk : k * p = l.length) : ∀ i, i + p < l.length → lw l i = lw l (i + p) := by
  intro i hi
  have el : (l.take p).length = p := by
    rw [List.length_take]
    omega
  have at_ : ∀ j, j < l.length → l[j]? = (l.take p)[j % p]? := fun j hj => by
    have h0 := flat_at (w := l.take p) k j (by rw [el, hk]; exact hj)
    rw [← e, el] at h0
    exact h0
  have h1 := at_ i (by omega)
  have h2 := at_ (i + p) hi
  rw [Nat.add_mod_right, ← h1, lw_get hi, lw_get (show i < l.length by omega)] at h2
  exact (Option.some.inj h2).symm
def spShort : Sp := fun vs H Q _ => ∃ (a b : Addr) (h l : List Int), vs = [.ref a, .ref b] ∧ SeqI H a h ∧ SeqI H b l ∧ l ≠ [] ∧ h.length ≤ 100000 ∧ l.length ≤ 100000 ∧
  ∀ (H' : Hp) (p : Addr) (h' l' : List Int), Same H H' → Las H' p h' l' → Short h l h' l' → Q (.ref p) H'
/-- what suffix hands back -/
def Suf (h l : List Int) (t : Nat) (h' l' : List Int) : Prop := Nrm h' l' ∧ (∀ i, wat h' l' i = wat h l (t + i)) ∧ h'.length ≤ h.length ∧ l'.length ≤ l.length ∧ (∀ x ∈ h', x ∈ h ∨ x ∈ l) ∧ ∀ x ∈ l', x ∈ l
def spSuffix : Sp := fun vs H Q _ => ∃ (p : Addr) (h l : List Int) (t : Nat), vs = [.ref p, .int t] ∧ Las H p h l ∧ l ≠ [] ∧ h.length ≤ 50000 ∧ l.length ≤ 50000 ∧
  ∀ (H' : Hp) (p' : Addr) (h' l' : List Int), Same H H' → Las H' p' h' l' → Suf h l t h' l' → Q (.ref p') H'
def spMake : Sp := fun vs H Q _ => ∃ (a b : Addr) (h l : List Int), vs = [.ref a, .ref b] ∧ H a = some (.lst (h.map V.int)) ∧ H b = some (.lst (l.map V.int)) ∧ l ≠ [] ∧ h.length ≤ 100000 ∧ l.length ≤ 100000 ∧ (∀ x ∈ h, 0 ≤ x) ∧ (∀ x ∈ l, 0 ≤ x) ∧
  ∀ (H' : Hp) (p : Addr) (h' l' : List Int), Same H H' → Las H' p h' l' → Short h l h' l' → Q (.ref p) H'
theorem suf_drop {h l : List Int} {t : Nat} (c : t < h.length) (i : Nat) : wat (h.drop t) l i = wat h l (t + i) := by
  unfold wat
  rw [List.length_drop]
  by_cases d : t + i < h.length
  · rw [if_pos d, if_pos (by omega), List.getD_eq_getElem?_getD, List.getD_eq_getElem?_getD, List.getElem?_drop]
  · rw [if_neg d, if_neg (by omega), show t + i - h.length = i - (h.length - t) by omega]
theorem suf_turn {h l : List Int} {t : Nat} (hn : l ≠ []) (c : h.length ≤ t) (i : Nat) : wat [] (l.drop ((t - h.length) % l.length) ++ l.take ((t - h.length) % l.length)) i = wat h l (t + i) := by
  have hp : 0 < l.length := List.length_pos_iff.mpr hn
  have hc := Nat.mod_lt (t - h.length) hp
  have e : l.drop ((t - h.length) % l.length) ++ l.take ((t - h.length) % l.length) = rot l l.length ((t - h.length) % l.length) := by
    have e3 : (l.drop ((t - h.length) % l.length)).take (l.length - (t - h.length) % l.length) = l.drop ((t - h.length) % l.length) := List.take_of_length_le (by rw [List.length_drop]; exact Nat.le_refl _)
    unfold rot
    rw [e3]
  rw [e, wat_cyc (Nat.zero_le _), wat_cyc (show h.length ≤ t + i by omega), rot_len hc (Nat.le_refl _)]
  show lw _ (_ % _) = lw _ (_ % _)
  rw [rot_at hc (Nat.le_refl _) (Nat.mod_lt _ hp), Nat.mod_add_mod, Nat.add_mod_mod]
  congr 2
  show i - 0 + _ = _
  omega
def spInts : Sp := fun vs H Q _ => ∃ (a : Addr) (xs : List Int) (lo hi : Int), vs = [.ref a, .int lo, .int hi] ∧ TupI H a xs ∧ (∀ x ∈ xs, lo ≤ x ∧ x < hi) ∧ Q (.bl true) H
def spNormal : Sp := fun vs H Q _ => ∃ (p : Addr) (h l : List Int), vs = [.ref p] ∧ Las H p h l ∧ Nrm h l ∧ l.length ≤ 1000 ∧ ∀ H', Same H H' → Q (.bl true) H'
def spIsLasso : Sp := fun vs H Q _ => ∃ (p : Addr) (h l : List Int) (n : Int), vs = [.ref p, .int n] ∧ Las H p h l ∧ Nrm h l ∧ l.length ≤ 1000 ∧ (∀ x ∈ h, 0 ≤ x ∧ x < n) ∧ (∀ x ∈ l, 0 ≤ x ∧ x < n) ∧ ∀ H', Same H H' → Q (.bl true) H'
/-! the same word in other forms -/
theorem wat_mem {h l : List Int} (n : l ≠ []) (t : Nat) : wat h l t ∈ h ∨ wat h l t ∈ l := by
  have hl : 0 < l.length := List.length_pos_iff.mpr n
  unfold wat
  by_cases c : t < h.length
  · rw [if_pos c, List.getD_eq_getElem?_getD, List.getElem?_eq_getElem c]
    exact .inl (List.getElem_mem c)
  · have c2 := Nat.mod_lt (t - h.length) hl
    rw [if_neg c, List.getD_eq_getElem?_getD, List.getElem?_eq_getElem c2]
    exact .inr (List.getElem_mem c2)
theorem range_getD {f : Nat → Int} {n t : Nat} (c : t < n) : ((List.range n).map f).getD t 0 = f t := by
  rw [List.getD_eq_getElem?_getD, List.getElem?_map, List.getElem?_range c]
  rfl
theorem wat_form {h l : List Int} {m k : Nat} (n : l ≠ []) (hk : 0 < k) (t : Nat) :
    wat ((List.range (h.length + m)).map (wat h l)) ((List.range (k * l.length)).map fun t => wat h l (h.length + m + t)) t = wat h l t := by
  have hl : 0 < l.length := List.length_pos_iff.mpr n
  have hkl : 0 < k * l.length := Nat.mul_pos hk hl
  rw [show wat ((List.range (h.length + m)).map (wat h l)) ((List.range (k * l.length)).map fun t => wat h l (h.length + m + t)) t
      = if t < ((List.range (h.length + m)).map (wat h l)).length then ((List.range (h.length + m)).map (wat h l)).getD t 0 else ((List.range (k * l.length)).map fun t => wat h l (h.length + m + t)).getD ((t - ((List.range (h.length + m)).map (wat h l)).length) % ((List.range (k * l.length)).map fun t => wat h l (h.length + m + t)).length) 0 from rfl]
  rw [List.length_map, List.length_range, List.length_map, List.length_range]
  by_cases c : t < h.length + m
  · rw [if_pos c, range_getD c]
  · rw [if_neg c, range_getD (Nat.mod_lt _ hkl), wat_cyc (by omega), wat_cyc (by omega)]
    show lw l (_ % _) = lw l (_ % _)
    congr 1
    have e1 : h.length + m + (t - (h.length + m)) % (k * l.length) - h.length = m + (t - (h.length + m)) % (k * l.length) := by omega
    have e2 : t - h.length = m + (t - (h.length + m)) := by omega
    rw [e1, e2, ← Nat.add_mod_mod, Nat.mod_mod_of_dvd _ ⟨k, Nat.mul_comm k l.length⟩, Nat.add_mod_mod]
theorem wat_front (f h l : List Int) (i : Nat) : wat (f ++ h) l (f.length + i) = wat h l i := by
  unfold wat
  rw [List.length_append]
  by_cases c : i < h.length
  · rw [if_pos c, if_pos (by omega), List.getD_eq_getElem?_getD, List.getD_eq_getElem?_getD, List.getElem?_append_right (by omega), Nat.add_sub_cancel_left]
  · rw [if_neg c, if_neg (by omega), show f.length + i - (f.length + h.length) = i - h.length by omega]
def dLas (h l : List Int) : PyData := .tuple [.tuple (h.map PyData.int), .tuple (l.map PyData.int)]
theorem dp_las {K : PySem.W.Frag} {H : Hp} {p : Addr} {h l : List Int} (x : Las H p h l) : Dp K H (.ref p) (dLas h l) := by
  obtain ⟨a, b, e1, e2, e3⟩ := x
  exact .tup (.of e1) (.cons (dp_tup e2) (.cons (dp_tup e3) .nil))
theorem shaped_las (h l : List Int) : SeqAt.shaped (dLas h l) = true := by
  unfold SeqAt.shaped dLas
  rw [PyData.canLay0, PyData.canLayAll0, PyData.canLayAll0, PyData.canLayAll0, PyData.canLay0, layAll, PyData.canLay0, layAll, PyData.depth, PyData.depthAll, PyData.depthAll, PyData.depthAll, PyData.depth, depAll, PyData.depth, depAll]
  rfl
theorem eqv_las (h l : List Int) : PyData.eqv (dLas h l) (dLas h l) = true := by
  unfold dLas
  rw [PyData.eqv, PyData.eqvAll, PyData.eqvAll, PyData.eqvAll, eqv_tup, eqv_tup]
  simp
def spCell (K : PySem.W.Frag) : Sp := fun vs H Q _ => ∃ (a : Addr) (ns : List Int) (k : Nat), vs = [.ref a, .int k] ∧ SqL K H a (ns.map V.int) ∧ ∀ v : Int, Q (.int v) H
def spNegX (C : Addr) : Sp := fun vs H _ E => ∃ (p : Addr) (t : Int), vs = [.ref p, .int t] ∧ t < 0 ∧ E (.ref C) none H
def spRefuses : Sp := fun vs H Q _ => ∃ (p : Addr) (t : Int), vs = [.ref p, .int t] ∧ t < 0 ∧ Q (.bl true) H
def spSame : Sp := fun vs H Q _ => ∃ (p q : Addr) (h l h2 l2 : List Int), vs = [.ref p, .ref q] ∧ Pr H p h l ∧ Pr H q h2 l2 ∧ l ≠ [] ∧ l2 ≠ [] ∧ dfn h l h2 l2 ≤ 1000000 ∧ (∀ t, wat h l t = wat h2 l2 t) ∧ Q (.bl true) H
def spMakeX (cE cL : Addr) : Sp := fun vs H Q E => ∃ (a b : Addr) (h l : List Int), vs = [.ref a, .ref b] ∧ H a = some (.lst (h.map V.int)) ∧ H b = some (.lst (l.map V.int)) ∧ h.length ≤ 100000 ∧ l.length ≤ 100000 ∧
  (l = [] → E (.ref cE) none H) ∧ (l ≠ [] → (∃ x, (x ∈ h ∨ x ∈ l) ∧ x < 0) → E (.ref cL) none H) ∧
  (l ≠ [] → (∀ x, x ∈ h ∨ x ∈ l → 0 ≤ x) → ∀ (H' : Hp) (p : Addr) (h' l' : List Int), Same H H' → Las H' p h' l' → Short h l h' l' → Q (.ref p) H')
def spOut : Sp := fun vs H Q _ => ∃ (a b : Addr) (h l : List Int), vs = [.ref a, .ref b] ∧ H a = some (.lst (h.map V.int)) ∧ H b = some (.lst (l.map V.int)) ∧ h.length ≤ 100000 ∧ l.length ≤ 100000 ∧
  (l = [] → ∀ (H' : Hp) (p : Addr), Same H H' → H' p = some (.tup [.str "empty", .bl true]) → Q (.ref p) H') ∧
  (l ≠ [] → (∃ x, (x ∈ h ∨ x ∈ l) ∧ x < 0) → ∀ (H' : Hp) (p : Addr), Same H H' → H' p = some (.tup [.str "letter", .bl true]) → Q (.ref p) H') ∧
  (l ≠ [] → (∀ x, x ∈ h ∨ x ∈ l → 0 ≤ x) → ∀ (H' : Hp) (p q : Addr) (h' l' : List Int), Same H H' → H' p = some (.tup [.str "lasso", .ref q]) → Las H' q h' l' → Short h l h' l' → Q (.ref p) H')
theorem neg_cases (h l : List Int) : (∃ x, (x ∈ h ∨ x ∈ l) ∧ x < 0) ∨ ∀ x, x ∈ h ∨ x ∈ l → 0 ≤ x := by
  by_cases c : ∃ x, (x ∈ h ∨ x ∈ l) ∧ x < 0
  · exact .inl c
  · exact .inr fun x hx => by
      rcases Int.lt_or_le x 0 with z | z
      · exact absurd ⟨x, hx, z⟩ c
      · exact z
def spIsInt : Sp := fun vs H Q _ => ∃ (i : Int), vs = [.int i] ∧ Q (.bl true) H
end Bx
/-! ### own errors, two levels below ValueError -/
namespace Bx
open PySem PySem.Spec PyProof.Rows L2
abbrev veB : List Value := [.type "ValueError", .type "Exception", .type "BaseException", .type "object"]
structure ErrC (K : PySem.W.Frag) (mg : Str → Option Value) (x : Str) (C : Addr) : Prop where
  g : mg x = some (.ref C)
  ex : PySem.W.excIn K C veB "ValueError.__new__" = true
  kp : PySem.W.keepIn K (.ref C) = true
  ty : PySem.W.typeIn K (.ref C) = some (.type "type")
  sf : PySem.W.subIn K (.ref C) (.ref C) = some true
  ec : ExcC K C
theorem ErrC.exm {K : PySem.W.Frag} {mg : Str → Option Value} {x : Str} {C : Addr} {cls : Value} {b : Bool} (e : ErrC K mg x C) (h : PySem.W.subIn K cls (.ref C) = some b) : PySem.W.exmOne K cls (.ref C) = some b := PySem.W.exm_ref e.ec.hs e.ec.hd e.ty h
theorem ErrC.me {K : PySem.W.Frag} {mg : Str → Option Value} {x : Str} {C : Addr} (e : ErrC K mg x C) : PySem.W.exmOne K (.ref C) (.ref C) = some true := e.exm e.sf
/-- raise X('..') -/
theorem ErrC.made {X : Cx} {C : Addr} {x m : Str} {j : Nat} {p p2 pos : Pos} (e : ErrC X.K X.mg x C) (hg : Gl X x) (hd : (x == ("__debug__" : Str)) = false := by decide) : PMk X (.Call (.Name x p) [.Constant (.str m) j p2] [] pos) (fun _ H Q => Q (.ref C) none H) :=
  pmk_own PySem.F.excBase_ValueError e.ex e.g e.kp (raises_own e.ec.hs e.ty) hg hd
/-- isinstance(e, c), e the exception that the suite holds -/
def rIsEx (K : PySem.W.Frag) (a : Addr) (cls : Value) (d : Option Addr) : List V → Hp → VK → Prop := fun xs H Q => ∃ D : Addr, cls = .ref D ∧ d = none ∧ ExcC K D ∧ rIsE K D a xs H Q
theorem call_isEx {X : Cx} {K : PySem.W.Frag} {a : Addr} {cls : Value} {d : Option Addr} {oe : Obj} {pn : List (Addr × Obj)} (h : X.K = K) (hz : Zc cls d oe) (hf : ∃ vs, oe.data = .fields vs) : CallR (X.suite a ((a, oe) :: pn)) (.builtin "isinstance") (rIsEx K a cls d) := by
  subst h
  intro pins s σ H xs us Q I r hw
  obtain ⟨D, rfl, rfl, C, hw⟩ := hw
  exact call_isE C hz hf pins s σ H xs us Q I r hw
/-- a def that may raise, by its name -/
structure CalX (P : Program) (w : World) (K : PySem.W.Frag) (mg : Str → Option Value) (base : Heap) (k : Nat) (x : Str) (sp : Sp) : Prop where
  ex : ∃ (f : Addr) (fd : FuncData) (ps : List Str), FnOk P w K mg base (L2.CX P w) k f fd ps sp ∧ mg x = some (.ref f) ∧ PySem.W.keepIn K (.ref f) = true ∧ Binds K fd ps []
theorem pe_cx {X : Cx} {k j : Nat} {x : Str} {sp : Sp} {W : WX} {p pos : Pos} {e : Expr} {es : List Expr} {t : TA} (c : CalX X.prog X.w X.K X.mg X.base k x sp) (hr : Room j X.A) (hk : k ≤ j) (tk : Takes X W) (hg : Gl X x) (ha : PA X (e :: es) t)
    (hdb : (x == ("__debug__" : Str)) = false := by decide) (he : starEach (e :: es) X.env = (false, eval e X.env) :: starEach es X.env := by rfl) (hpl : (backTo pos (starEach es X.env)).any (·.1) = false := by rfl) :
    PE X (.Call (.Name x p) (e :: es) [] pos) (tCallS sp (WE W) t) := by
  obtain ⟨f, fd, ps, F, hm, kp, b⟩ := c.ex
  exact pe_callS F (hr.mono hk) hg hm kp b (fun σ => passAt tk σ) ha hdb he hpl
end Bx
/-! ### several clauses, each with its name: own rule -/
namespace Bx
open PySem PySem.Spec PyProof.Rows L2
/-- what the clauses wish, one after the other: (class, the name's slot, the suite's reading) -/
def wAll (K : PySem.W.Frag) (Wo : WX) (D : Ends) : List (Value × Nat × (Addr → Value → Option Addr → TS)) → WX
  | [] => Wo
  | (c, i, ts) :: r => fun cls d σ H => ∃ b, PySem.W.exmOne K cls c = some b ∧
    (b = true → ∀ a, H a = none → ts a cls d { nx := fun σ' H' => D.nx (σ'.set i none) H', rt := D.rt, bk := fun σ' H' => D.bk (σ'.set i none) H', ct := fun σ' H' => D.ct (σ'.set i none) H' } (σ.set i (some (.ref a))) H) ∧
    (b = false → wAll K Wo D r cls d σ H)
inductive Clauses (Y : Cx) : List ExceptHandler → List (Value × Nat × (Addr → Value → Option Addr → TS)) → Prop
  | nil : Clauses Y [] []
  | cons {x n : Str} {c : Value} {i : Nat} {ts : Addr → Value → Option Addr → TS} {b0 : Stmt} {suite : List Stmt} {p p' : Pos} {cs : List ExceptHandler} {l : List (Value × Nat × (Addr → Value → Option Addr → TS))}
      (hc : Names Y x c) (hi : Y.N[i]? = some n) (hl : Y.env.kindOf n = some .local)
      (su : ∀ (a : Addr) (oe : Obj) (cls : Value) (d : Option Addr) (pn : List (Addr × Obj)), Zc cls d oe → (∃ vs, oe.data = .fields vs) → PSs (Y.suite a ((a, oe) :: pn)) (b0 :: suite) (ts a cls d)) (r : Clauses Y cs l) :
      Clauses Y (.ExceptHandler (some (.Name x p)) (some n) (b0 :: suite) p' :: cs) ((c, i, ts) :: l)
theorem ps_try_all {Y : Cx} {body : List Stmt} {c0 : ExceptHandler} {cs : List ExceptHandler} {l : List (Value × Nat × (Addr → Value → Option Addr → TS))} {pos : Pos} {tb : WX → TS} {Wo : WX}
    (ks : Y.stack = Y.env :: Y.outer) (kf : Y.env.frame = some Y.env.locals) (kN : Y.N.Nodup) (tk : Takes Y Wo)
    (kb : ∀ (W : WX) (pn : List (Addr × Obj)) (xe : Value → Shared → Prop), Takes (Y.tr pn xe) W → PassesOwn (model Y.prog Y.w) Y.A Y.env xe → PSs (Y.tr pn xe) body (tb W))
    (kh : Clauses Y (c0 :: cs) l) : PS Y (.Try body (c0 :: cs) [] [] pos) (fun D σ H => tb (wAll Y.K Wo D l) D σ H) := by
  refine ⟨fun pins u σ H D I hw => ?_⟩
  have okY := I.ok
  have fr := okY.frames
  rw [ks] at fr
  refine wpAny_Try_except ?_
  refine wpAny_mono ((kb (wAll Y.K Wo D l) (Y.pn ++ pins) (fun e u1 => wpAny (model Y.prog Y.w) Y.A (noteFrame e Y.env) (fun _ u2 => wpAny (model Y.prog Y.w) Y.A (setFlight e none) (fun _ u3 =>
    wpAny (model Y.prog Y.w) Y.A (handleBy e Y.env (c0 :: cs)) (SP Y pins D) Y.xe u3) Y.xe u2) Y.xe u1) (fun v g xx => ?_) PassesOwn.looking).run [] u σ H D (I.toTry _) hw) (fun f u1 q => ?_) (fun e u1 q => q)
  · obtain ⟨a, B, sI, pins1, σ1, H1, cls, d, rfl, Jt, nb, up, sk, na, os, ag, w⟩ := xx
    have J : Inv Y pins σ1 H1 sI := Jt.ofTry okY
    have sk1 : Sky B (Y.env :: Y.outer) a (Zc cls d) Y.env.locals g.heap := by rw [← ks]; exact sk
    show wpAny (model Y.prog Y.w) Y.A (noteFrame (.ref a) Y.env) _ _ _
    refine Sky.land Zc.steady fr kf sk1 fun g3 f3 u3 => ?_
    have I3 : Inv Y pins σ1 H1 { g with heap := g3 } := J.landed nb f3.1 (up.trans u3) os ag
    obtain ⟨o3, w3, at3, z3, dt3⟩ := f3.there
    have apart : ∀ {t : Heap} {o : Obj} {vs : Array Value}, t.FunFrames B (Y.env :: Y.outer) → t.get? a = some o → o.data = .fields vs → a ∉ frs (Y.env :: Y.outer) := fun {t o vs} ff e dd hm => by
      obtain ⟨_, o2, e2, q2⟩ := ff.mem hm
      rw [e] at e2
      cases e2
      exact q2 _ dd
    have n0 := apart f3.2.2.1 at3 dt3
    have nL : a ≠ Y.env.locals := fun z => n0 (List.mem_filterMap.mpr ⟨Y.env, List.mem_cons_self, by rw [kf, z]⟩)
    have nF : a ∉ Y.fs := fun hm => by
      obtain ⟨e, he, q⟩ := List.mem_filterMap.mp hm
      exact n0 (List.mem_filterMap.mpr ⟨e, List.mem_cons_of_mem _ he, q⟩)
    have T3 := I3.suite at3 dt3 na nL nF
    have all : ∀ {cs2 : List ExceptHandler} {l2 : List (Value × Nat × (Addr → Value → Option Addr → TS))}, Clauses Y cs2 l2 → wAll Y.K Wo D l2 cls d σ1 H1 →
        wpAny (model Y.prog Y.w) Y.A (handleBy (.ref a) Y.env cs2) (SP Y pins D) Y.xe { g with heap := g3 } := by
      intro cs2 l2 hk
      induction hk with
      | nil =>
        intro w
        refine wpAny_handleBy_nil ?_
        obtain ⟨_, _, _, oe, vs, T, oT, t2, he, hz, hd, h1, _⟩ := id f3
        unfold PySem.passOn
        refine wpAny_bind (wpAny_field he hd h1 ?_)
        rw [if_neg (show ¬ ((Value.ref T == Value.none) = true) from by simp)]
        have away : wpAny (model Y.prog Y.w) Y.A (setFlight (.ref a) Y.env.frame) (fun _ u4 => wpAny (model Y.prog Y.w) Y.A (throw (.ref a) : Sem Flow) (SP Y pins D) Y.xe u4) Y.xe { g with heap := g3 } := by
          rw [kf]
          refine HandSPX.setFlight_upZ f3 fun g4 q4 u4 => wpAny_throw (tk _ _ ?_)
          exact ⟨a, B, sI, pins, σ1, H1, cls, d, rfl, J, nb, (up.trans u3).trans u4, .inr (.inr (by rw [ks]; exact q4)), na, os, ag, w⟩
        first
          | exact wpAny_bind (wpAny_pure (wpAny_bind away))
          | exact wpAny_bind away
      | @cons x n c i ts b0 suite p p' cs3 l3 hc hi hl su r ih =>
        intro w
        obtain ⟨b, e1, yes, no⟩ := w
        refine wpAny_handleBy_cons (codeAny_handlers_test ?_) (by intro q; cases q)
        have LT : PySem.W.Looks (model Y.prog Y.w) g3 (typeOf (.ref a)) cls := fun A Q E s k q => wpAny_typeOf_ref (k _ _ at3) (by rw [z3.1]; exact q)
        have LM := PySem.W.exm_one (M := model Y.prog Y.w) (I3.kIn) LT e1
        have test : ∀ {Q : Value → Shared → Prop} {E : Value → Shared → Prop}, Q c { g with heap := g3 } → wpAny (model Y.prog Y.w) (Y.A.mark (some (.ref a))) (eval (.Name x p) Y.env) Q E { g with heap := g3 } := fun {Q E} q => by
          obtain ⟨hg, hdb, hm | ⟨hm, hv, hnn⟩⟩ := hc
          · exact ld_glob (X := Y.suite a ((a, o3) :: (Y.pn ++ pins))) T3 hg hm q hdb
          · exact ld_blt (X := Y.suite a ((a, o3) :: (Y.pn ++ pins))) T3 hg hm hv q hnn hdb
        refine test (LM.here ?_)
        cases b with
        | true =>
          refine codeAny_handlers_suite_as ?_
          refine HandSPX.lands_againZ f3 fun g4 f4 u4 => ?_
          have I4 : Inv Y pins σ1 H1 { g with heap := g4 } := J.landed nb f4.1 ((up.trans u3).trans u4) os ag
          obtain ⟨o4, w4, at4, z4, dt4⟩ := f4.there
          have T4 := I4.suite at4 dt4 na nL nF
          refine store_ok (X := Y.suite a ((a, o4) :: (Y.pn ++ pins))) (v := .ref a) T4 kN hi (.inl hl) rfl (fun u5 T5 => ?_) (.inr hl)
          refine wpAny_mono ((su a o4 cls d (Y.pn ++ pins) z4 ⟨_, dt4⟩).run [] u5 _ H1 _ T5 (yes rfl a na)) (fun f u6 q => ?_) (fun _ _ z => False.elim z)
          have fin : ∀ {σ6 : L2.St} {H6 : Hp} {Q : Shared → Prop}, Inv (Y.suite a ((a, o4) :: (Y.pn ++ pins))) [] σ6 H6 u6 → (∀ u7, Inv Y pins (σ6.set i none) H6 u7 → Q u7) →
              wpAny (model Y.prog Y.w) Y.A (do bindName Y.env n .none; unbindBehindTheSuite Y.env n p') (fun _ u7 => Q u7) Y.xe u6 := fun {σ6 H6 Q} T6 hq => gone_ok (T6.unsuite okY) kN hi hl hq
          cases f with
          | next =>
            obtain ⟨_, _, T6, q6⟩ := q
            exact fin T6 fun _ I7 => ⟨_, _, I7, q6⟩
          | brk =>
            obtain ⟨_, _, T6, q6⟩ := q
            exact fin T6 fun _ I7 => ⟨_, _, I7, q6⟩
          | cont =>
            obtain ⟨_, _, T6, q6⟩ := q
            exact fin T6 fun _ I7 => ⟨_, _, I7, q6⟩
          | ret v =>
            obtain ⟨_, _, _, T6, r6, q6⟩ := q
            exact fin T6 fun _ I7 => ⟨_, _, _, I7, r6, q6⟩
        | false =>
          show wpAny _ Y.A (handleBy (.ref a) Y.env cs3) _ _ _
          exact ih (no rfl)
    exact all kh w
  · cases f with
    | next =>
      obtain ⟨_, _, J1, q1⟩ := q
      exact wpAny_execs_nil ⟨_, _, J1.ofTry okY, q1⟩
    | brk =>
      obtain ⟨_, _, J1, q1⟩ := q
      exact ⟨_, _, J1.ofTry okY, q1⟩
    | cont =>
      obtain ⟨_, _, J1, q1⟩ := q
      exact ⟨_, _, J1.ofTry okY, q1⟩
    | ret v =>
      obtain ⟨_, _, _, J1, r1, q1⟩ := q
      exact ⟨_, _, _, J1.ofTry okY, r1, q1⟩
end Bx
/-! ### max of a tuple of ints, lcm: own rules -/
namespace MaxT
open PySem PySem.W PyProof.Rows
section
variable {prog : Program} {w : World} {A : Around} {E : Value → Shared → Prop} {s : Shared}
theorem walkT {l : Addr} {xs : Array (Int × Tok)} {Q : Value → Shared → Prop} (hh : A.handled = none) (ht : s.heap.IsTuple l (intItems xs)) (hne : 0 < xs.size)
    (h : ∀ v g tk, (intItems xs)[argBest (fun i j => decide (numAt xs i > numAt xs j)) (xs.size - 1)]? = some v → (∀ b o, s.heap.get? b = some o → g.get? b = some o) → Q v { s with heap := g, toks := tk }) :
    wpAny (model prog w) A (call (.builtin "max") [.ref l]) Q E s := by
  have ll : l < s.heap.objs.size := by
    obtain ⟨_, e, _⟩ := ht
    exact Heap.lt_size e
  refine call_max_walk (wpAny_pyIter_tuple ht ?_)
  refine ⟨_, _, _, _, _, _, _, rfl, Walks.tuple (A := A.in1) hh _ l (Nat.ne_of_lt ll) (intItems xs), ⟨⟨_, Heap.get?_push_size _ rfl, rfl, rfl⟩, ht.push _⟩, fun c hc => ?_, by simpa [intItems] using hne, CmpOf.ints_gt (numAt xs) (fun _ _ => intItems_at), fun v g tk hP hk => ?_⟩
  · show c < (s.heap.push _).objs.size
    rw [Heap.size_push]
    rcases List.mem_cons.mp hc with rfl | hc
    · exact Nat.lt_succ_self _
    · rcases List.mem_cons.mp hc with rfl | hc
      · exact Nat.lt_succ_of_lt ll
      · cases hc
  · refine h v g tk (by simpa [intItems] using hP) fun b o e => hk b o (fun hm => ?_) (Heap.get?_push_of_some _ e)
    have e1 : b = s.heap.objs.size := List.mem_singleton.mp hm
    rw [e1] at e
    exact absurd (Heap.lt_size e) (Nat.lt_irrefl _)
theorem rawT {l : Addr} {its : List Value} {ns : List Int} {Q : Value → Shared → Prop} (hh : A.handled = none) (hl : IsTup s.heap l its.toArray) (hi : IntsAre its ns) (hne : ns ≠ [])
    (h : ∀ (g : Heap) (tk : Nat) (m : Int) (t' : Tok), (∀ b o, s.heap.get? b = some o → g.get? b = some o) → m ∈ ns → (∀ y ∈ ns, y ≤ m) → Q (.int m t') { s with heap := g, toks := tk }) :
    wpAny (model prog w) A (call (.builtin "max") [.ref l]) Q E s := by
  obtain ⟨xs, e⟩ := hi.allInts.items
  have hn : numsOf (intItems xs).toList = ns := by rw [← e]; exact hi.numsOf
  rw [PySem.nums_intItems] at hn
  subst hn
  rw [e] at hl
  have c : 0 < xs.size := by
    rcases Nat.eq_zero_or_pos xs.size with z | z
    · refine absurd ?_ hne
      have : xs = #[] := Array.eq_empty_of_size_eq_zero z
      rw [this]
      rfl
    · exact z
  refine walkT hh hl c fun v g tk p1 keep => ?_
  obtain ⟨u, rfl⟩ := intItems_at p1
  obtain ⟨a1, a2⟩ := argBest_gt (numAt xs) (xs.size - 1)
  refine h g tk _ u keep ?_ fun y hy => ?_
  · rw [PySem.numAt_eq]
    refine PySem.getD_mem ?_
    rw [List.length_map, Array.length_toList]
    exact Nat.lt_of_le_of_lt a1 (by omega)
  · obtain ⟨j, hj, rfl⟩ := PySem.mem_getD hy
    rw [List.length_map, Array.length_toList] at hj
    rw [← PySem.numAt_eq]
    exact a2 j (by omega)
end
end MaxT
namespace Bx
open PySem PySem.Spec PyProof.Rows L2
def rMaxT (K : PySem.W.Frag) : List V → Hp → VK → Prop := fun xs H Q => ∃ (a : Addr) (ns : List Int), xs = [.ref a] ∧ SqT K H a (ns.map V.int) ∧ ns ≠ [] ∧ ∀ m, m ∈ ns → (∀ y ∈ ns, y ≤ m) → Q (.int m) H
theorem call_maxT {X : Cx} {K : PySem.W.Frag} (h : X.K = K) (hc : X.calm = true) : CallR X (.builtin "max") (rMaxT K) := by
  subst h
  intro pins s σ H xs us Q I r hw
  obtain ⟨a, ns, rfl, hs, hne, q⟩ := hw
  obtain ⟨its, rv, ht, _⟩ := I.tuple hs
  rw [Vals.ref1 r]
  exact MaxT.rawT (I.ok.hd hc) ht rv.ints hne fun g tk m t' hk h1 h2 => ⟨.int m, H, I.kept hk, ⟨_, rfl⟩, q m h1 h2⟩
theorem call_maxK {X : Cx} {K : PySem.W.Frag} (h : X.K = K) (hc : X.calm = true) : CallR X (.builtin "max") (rMax K) := by
  subst h
  exact cr_max hc
def spCheckX (cL : Addr) : Sp := fun vs H Q E => ∃ (p : Addr) (h l : List Int) (n : Int), vs = [.ref p, .int n] ∧ Las H p h l ∧ l ≠ [] ∧ h.length ≤ 1000 ∧ l.length ≤ 1000 ∧
  ((∃ x, (x ∈ h ∨ x ∈ l) ∧ n ≤ x) → ∀ H', Same H H' → E (.ref cL) none H') ∧ ((∀ x, x ∈ h ∨ x ∈ l → x < n) → ∀ H', Same H H' → Q .non H')
end Bx
/-! ### lists of lists, instances made in a try: own rules -/
namespace Bx
open PySem PySem.Spec PyProof.Rows L2
section
variable {X : Cx}
theorem pi_or {tg iter : Expr} {w1 w2 : TI} (h1 : PI X tg iter w1) (h2 : PI X tg iter w2) : PI X tg iter (fun σ H R => w1 σ H R ∨ w2 σ H R) := ⟨fun pins s σ H R I h => by
  rcases h with h | h
  · exact h1.run pins s σ H R I h
  · exact h2.run pins s σ H R I h⟩
theorem passF {P : Program} {w : World} : Passes (L2.CX P w) X (fun _ _ _ => False) := fun _ _ _ _ _ _ _ h => by
  obtain ⟨_, _, _, _, _, _, _, _, _, _, _, _, z⟩ := h
  exact z.elim
/-- a new instance of an own class whose __init__ may raise -/
structure MakX (P : Program) (w : World) (K : PySem.W.Frag) (mg : Str → Option Value) (base : Heap) (k : Nat) (x : Str) (C : Addr) (sp : Sp) : Prop where
  ex : ∃ (f : Addr) (fd : FuncData) (ps : List Str), Mk K C f ∧ FnOk P w K mg base (L2.CX P w) k f fd ps sp ∧ mg x = some (.ref C) ∧ Binds K fd ps []
def tMakX (C : Addr) (sp : Sp) (E : L2.St → XK) (t : TA) : TE := fun σ H Q => t σ H fun vs H1 => ∀ x dx, H1 x = none → H1 dx = none → dx ≠ x → sp (.ref x :: vs) (upd (upd H1 dx (.own x)) x (.ins C dx [])) (fun v H2 => v = .non ∧ Q (.ref x) H2) (E σ)
theorem made_at {k : Nat} {f C : Addr} {fd : FuncData} {ps : List Str} {sp : Sp} {E : XK} {pins : List (Addr × Obj)} {σ : L2.St} {H : Hp} {u : Shared} {Q : VK} {us : List Value} {vs : List V} (M : Mk X.K C f) (F : FnOk X.prog X.w X.K X.mg X.base (L2.CX X.prog X.w) k f fd ps sp) (hr : Room (k + 1) X.A) (hb : Binds X.K fd ps [])
    (hx : PassesAt (L2.CX X.prog X.w) X σ E) (I : Inv X pins σ H u) (r : Vals vs us)
    (h : ∀ x dx, H x = none → H dx = none → dx ≠ x → sp (.ref x :: vs) (upd (upd H dx (.own x)) x (.ins C dx [])) (fun v H2 => v = .non ∧ Q (.ref x) H2) E) :
    wpAny (model X.prog X.w) X.A (call (.ref C) us) (EP X pins σ Q) X.xe u := by
  have q0 := h (u.heap.objs.size + 1) u.heap.objs.size (I.hok.fresh (Nat.le_succ _)) (I.hok.fresh (Nat.le_refl _)) (Nat.ne_of_lt (Nat.lt_succ_self _))
  have J := Inv.made (C := C) I
  have r2 : Vals (V.ref (u.heap.objs.size + 1) :: vs) (Value.ref (u.heap.objs.size + 1) :: us) := .cons rfl r
  have hl : (Value.ref (u.heap.objs.size + 1) :: us ++ []).length = ps.length := by
    have e := r2.length
    rw [F.len _ _ _ _ q0] at e
    rw [List.append_nil]
    exact e.symm
  refine wpAny_call (make_map (f := f) I.kIn M.makes M.init (beq_iff_eq.mp M.fn) (codeAny_mono (F.run _ X.stack _ _ ⟨Value.ref (u.heap.objs.size + 1) :: us, []⟩ (Value.ref (u.heap.objs.size + 1) :: us) _ _ E (hr.make C us [])
    (J.env0.make C us []) (by have q := hb _ (Value.ref (u.heap.objs.size + 1) :: us) J.kIn hl; rw [List.append_nil] at q; exact q) r2 q0) fun r u' hq => ?_))
  cases r with
  | error e => exact hx pins _ _ e u' J hq
  | ok fl =>
    cases fl with
    | ret v =>
      obtain ⟨y, G, J3, ry, ey, qy⟩ := J.after hq
      subst ey
      exact ⟨ry, ⟨V.ref (u.heap.objs.size + 1), G, J3, rfl, qy⟩⟩
    | next => exact False.elim hq
    | brk => exact False.elim hq
    | cont => exact False.elim hq
theorem pe_makeX {k j : Nat} {C : Addr} {x : Str} {sp : Sp} {W : WX} {p pos : Pos} {e : Expr} {es : List Expr} {t : TA} (c : MakX X.prog X.w X.K X.mg X.base k x C sp) (hr : Room j X.A) (hk : k + 1 ≤ j) (tk : Takes X W) (hg : Gl X x) (ha : PA X (e :: es) t)
    (hdb : (x == ("__debug__" : Str)) = false := by decide) (he : starEach (e :: es) X.env = (false, eval e X.env) :: starEach es X.env := by rfl) (hpl : (backTo pos (starEach es X.env)).any (·.1) = false := by rfl) :
    PE X (.Call (.Name x p) (e :: es) [] pos) (tMakX C sp (WE W) t) := by
  obtain ⟨f, fd, ps, M, F, hm, b⟩ := c.ex
  refine ⟨fun pins u σ H Q I hw => ?_⟩
  refine wpAny_Call_Name_kw (ld_glob I hg hm ?_ hdb)
  refine PySem.W.callWith_K (h₀ := X.base) I.ok.mod.kin M.kp (thn (ha.run pos pins u σ H _ I hw) fun us u1 ⟨vs, H1, I1, rv, qv⟩ => ⟨I1.kIn, ?_⟩) he hpl
  exact made_at M F (hr.mono hk) b (passAt tk σ) I1 rv qv
theorem pe_makeN {k j : Nat} {C : Addr} {x : Str} {sp : Sp} {p pos : Pos} {e : Expr} {es : List Expr} {t : TA} (c : MakX X.prog X.w X.K X.mg X.base k x C sp) (hr : Room j X.A) (hk : k + 1 ≤ j) (hg : Gl X x) (ha : PA X (e :: es) t)
    (hdb : (x == ("__debug__" : Str)) = false := by decide) (he : starEach (e :: es) X.env = (false, eval e X.env) :: starEach es X.env := by rfl) (hpl : (backTo pos (starEach es X.env)).any (·.1) = false := by rfl) :
    PE X (.Call (.Name x p) (e :: es) [] pos) (tMakX C sp (fun _ => fun _ _ _ => False) t) := by
  obtain ⟨f, fd, ps, M, F, hm, b⟩ := c.ex
  refine ⟨fun pins u σ H Q I hw => ?_⟩
  refine wpAny_Call_Name_kw (ld_glob I hg hm ?_ hdb)
  refine PySem.W.callWith_K (h₀ := X.base) I.ok.mod.kin M.kp (thn (ha.run pos pins u σ H _ I hw) fun us u1 ⟨vs, H1, I1, rv, qv⟩ => ⟨I1.kIn, ?_⟩) he hpl
  exact made_at M F (hr.mono hk) b (fun pins G v e v' J q => passF pins σ G v e v' J q) I1 rv qv
end
/-! rows of ints -/
def RowsA (mk : List V → HO) (H : Hp) : List Addr → List (List Int) → Prop
  | [], [] => True
  | a :: as, r :: rs => H a = some (mk (r.map V.int)) ∧ RowsA mk H as rs
  | _, _ => False
def RowsQ (H : Hp) : List Addr → List (List Int) → Prop
  | [], [] => True
  | a :: as, r :: rs => SeqI H a r ∧ RowsQ H as rs
  | _, _ => False
theorem RowsA.keep {mk : List V → HO} {H H' : Hp} : ∀ {as : List Addr} {rs : List (List Int)}, (∀ b o, b ∈ as → H b = some o → H' b = some o) → RowsA mk H as rs → RowsA mk H' as rs
  | [], [], _, _ => True.intro
  | a :: as, r :: rs, k, h => ⟨k a _ List.mem_cons_self h.1, RowsA.keep (fun b o hb => k b o (List.mem_cons_of_mem _ hb)) h.2⟩
  | [], _ :: _, _, h => h.elim
  | _ :: _, [], _, h => h.elim
theorem RowsA.same {mk : List V → HO} {H H' : Hp} {as : List Addr} {rs : List (List Int)} (k : Same H H') (h : RowsA mk H as rs) : RowsA mk H' as rs := h.keep fun b o _ e => k b o e
theorem RowsA.len {mk : List V → HO} {H : Hp} : ∀ {as : List Addr} {rs : List (List Int)}, RowsA mk H as rs → as.length = rs.length
  | [], [], _ => rfl
  | a :: as, r :: rs, h => congrArg (· + 1) h.2.len
  | [], _ :: _, h => h.elim
  | _ :: _, [], h => h.elim
theorem RowsA.snoc {mk : List V → HO} {H : Hp} {a : Addr} {r : List Int} (ha : H a = some (mk (r.map V.int))) : ∀ {as : List Addr} {rs : List (List Int)}, RowsA mk H as rs → RowsA mk H (as ++ [a]) (rs ++ [r])
  | [], [], _ => ⟨ha, True.intro⟩
  | b :: as, q :: rs, h => ⟨h.1, h.2.snoc ha⟩
  | [], _ :: _, h => h.elim
  | _ :: _, [], h => h.elim
theorem RowsA.get {mk : List V → HO} {H : Hp} : ∀ {as : List Addr} {rs : List (List Int)} {i : Nat} {a : Addr}, RowsA mk H as rs → as[i]? = some a → ∃ r, rs[i]? = some r ∧ H a = some (mk (r.map V.int))
  | [], _, _, _, _, e => by simp at e
  | b :: as, [], _, _, h, _ => h.elim
  | b :: as, q :: rs, 0, a, h, e => by
    have : b = a := Option.some.inj e
    subst this
    exact ⟨q, rfl, h.1⟩
  | b :: as, q :: rs, i + 1, a, h, e => RowsA.get (i := i) h.2 e
theorem RowsA.q1 {H : Hp} : ∀ {as : List Addr} {rs : List (List Int)}, RowsA .lst H as rs → RowsQ H as rs
  | [], [], _ => True.intro
  | a :: as, r :: rs, h => ⟨.inl h.1, h.2.q1⟩
  | [], _ :: _, h => h.elim
  | _ :: _, [], h => h.elim
theorem RowsA.q2 {H : Hp} : ∀ {as : List Addr} {rs : List (List Int)}, RowsA .tup H as rs → RowsQ H as rs
  | [], [], _ => True.intro
  | a :: as, r :: rs, h => ⟨.inr h.1, h.2.q2⟩
  | [], _ :: _, h => h.elim
  | _ :: _, [], h => h.elim
theorem RowsQ.same {H H' : Hp} (k : Same H H') : ∀ {as : List Addr} {rs : List (List Int)}, RowsQ H as rs → RowsQ H' as rs
  | [], [], _ => True.intro
  | a :: as, r :: rs, h => ⟨h.1.same k, h.2.same k⟩
  | [], _ :: _, h => h.elim
  | _ :: _, [], h => h.elim
theorem RowsQ.len {H : Hp} : ∀ {as : List Addr} {rs : List (List Int)}, RowsQ H as rs → as.length = rs.length
  | [], [], _ => rfl
  | a :: as, r :: rs, h => congrArg (· + 1) h.2.len
  | [], _ :: _, h => h.elim
  | _ :: _, [], h => h.elim
theorem RowsQ.get {H : Hp} : ∀ {as : List Addr} {rs : List (List Int)} {i : Nat} {a : Addr}, RowsQ H as rs → as[i]? = some a → ∃ r, rs[i]? = some r ∧ SeqI H a r
  | [], _, _, _, _, e => by simp at e
  | b :: as, [], _, _, h, _ => h.elim
  | b :: as, q :: rs, 0, a, h, e => by
    have : b = a := Option.some.inj e
    subst this
    exact ⟨q, rfl, h.1⟩
  | b :: as, q :: rs, i + 1, a, h, e => RowsQ.get (i := i) h.2 e
/-- a list or a tuple of any values -/
def SeqV (H : Hp) (a : Addr) (xs : List V) : Prop := H a = some (.lst xs) ∨ H a = some (.tup xs)
theorem SeqV.same {H H' : Hp} {a : Addr} {xs : List V} (k : Same H H') (h : SeqV H a xs) : SeqV H' a xs := by
  rcases h with h | h
  · exact .inl (k _ _ h)
  · exact .inr (k _ _ h)
theorem SeqV.sq {K : PySem.W.Frag} {H : Hp} {a : Addr} {xs : List V} (h : SeqV H a xs) : SqL K H a xs ∨ SqT K H a xs := by
  rcases h with h | h
  · exact .inl (.of h)
  · exact .inr (.of h)
def iSeq (K : PySem.W.Frag) (te : TE) : TI := fun σ H R => iList K te σ H R ∨ iTup K te σ H R
theorem pi_listK {X : Cx} {K : PySem.W.Frag} {tg e : Expr} {te : TE} (h : X.K = K) (he : PE X e te) : PI X tg e (iList K te) := by
  subst h
  exact pi_list he
theorem pi_tupK {X : Cx} {K : PySem.W.Frag} {tg e : Expr} {te : TE} (h : X.K = K) (he : PE X e te) : PI X tg e (iTup K te) := by
  subst h
  exact pi_tup he
theorem pi_seq {X : Cx} {K : PySem.W.Frag} {tg e : Expr} {te : TE} (h : X.K = K) (he : PE X e te) : PI X tg e (iSeq K te) := by
  subst h
  exact pi_or (pi_list he) (pi_tup he)
theorem for_seq {K : PySem.W.Frag} {i : Nat} {a : Addr} {xs : List V} {g : TG} {tb : TS} {D : Ends} {σ : L2.St} {H : Hp} (hv : σ[i]? = some (some (.ref a))) (hq : SeqV H a xs) (Pv : Nat → L2.St → Hp → Prop) (h0 : Pv 0 σ H) (hS : ∀ i σ' H', Pv i σ' H' → Same H H')
    (hs : ∀ i x σ H, xs[i]? = some x → Pv i σ H → g x σ H fun σ2 H2 => tb { D with nx := Pv (i + 1), ct := Pv (i + 1), bk := D.nx } σ2 H2) (hd : ∀ σ H, Pv xs.length σ H → D.nx σ H) : tFor (iSeq K (tVar i)) g tb D σ H := by
  rcases hq with h | h
  · exact .inl ⟨_, hv, a, rfl, ⟨_, .of h⟩, for_list Pv h0 (fun i σ' H' _ p => .of (hS i σ' H' p _ _ h)) hs hd⟩
  · exact .inr ⟨_, hv, a, rfl, ⟨_, .of h⟩, for_tup Pv h0 (fun i σ' H' _ p => .of (hS i σ' H' p _ _ h)) hs hd⟩
/-- a list of lists of ints -/
def LL (H : Hp) (r : Addr) (as : List Addr) (rows : List (List Int)) : Prop := H r = some (.lst (as.map V.ref)) ∧ RowsA .lst H as rows
def Vld (L s : Int) (ps : List Int) (rows : List (List Int)) : Prop := 1 ≤ L ∧ rows ≠ [] ∧ ps.length = rows.length ∧ (0 ≤ s ∧ s < (rows.length : Int)) ∧ (∀ r ∈ rows, (r.length : Int) = L ∧ ∀ x ∈ r, 0 ≤ x ∧ x < (rows.length : Int)) ∧ ∀ p ∈ ps, 0 ≤ p
/-- the fields of a parity automaton, as they are stored -/
def pf (L s : Int) (pt rt : Addr) : List (Str × V) := putF "rows" (.ref rt) (putF "priorities" (.ref pt) (putF "start" (.int s) (putF "letters" (.int L) [])))
theorem putF_len (f : Str) (v : V) : ∀ fs : List (Str × V), (putF f v fs).length ≤ fs.length + 1
  | [] => Nat.le_refl _
  | (g, x) :: r => by
    unfold putF
    by_cases c : g = f
    · rw [if_pos c]
      exact Nat.le_succ _
    · rw [if_neg c]
      exact Nat.succ_le_succ (putF_len f v r)
theorem pf_L (L s : Int) (pt rt : Addr) : (pf L s pt rt).lookup ("letters" : Str) = some (.int L) := by
  unfold pf
  rw [lookup_putF, if_neg (by decide +kernel), lookup_putF, if_neg (by decide +kernel), lookup_putF, if_neg (by decide +kernel), lookup_putF, if_pos rfl]
theorem pf_s (L s : Int) (pt rt : Addr) : (pf L s pt rt).lookup ("start" : Str) = some (.int s) := by
  unfold pf
  rw [lookup_putF, if_neg (by decide +kernel), lookup_putF, if_neg (by decide +kernel), lookup_putF, if_pos rfl]
theorem pf_p (L s : Int) (pt rt : Addr) : (pf L s pt rt).lookup ("priorities" : Str) = some (.ref pt) := by
  unfold pf
  rw [lookup_putF, if_neg (by decide +kernel), lookup_putF, if_pos rfl]
theorem pf_r (L s : Int) (pt rt : Addr) : (pf L s pt rt).lookup ("rows" : Str) = some (.ref rt) := by
  unfold pf
  rw [lookup_putF, if_pos rfl]
/-- a parity automaton at x -/
def ParAt (C : Addr) (H : Hp) (x : Addr) (L s : Int) (ps : List Int) (rows : List (List Int)) : Prop := ∃ (dx pt rt : Addr) (as : List Addr), H x = some (.ins C dx (pf L s pt rt)) ∧ TupI H pt ps ∧ H rt = some (.tup (as.map V.ref)) ∧ RowsA .tup H as rows
theorem ParAt.same {C : Addr} {H H' : Hp} {x : Addr} {L s : Int} {ps : List Int} {rows : List (List Int)} (k : Same H H') (h : ParAt C H x L s ps rows) : ParAt C H' x L s ps rows := by
  obtain ⟨dx, pt, rt, as, e1, e2, e3, e4⟩ := h
  exact ⟨dx, pt, rt, as, k _ _ e1, k _ _ e2, k _ _ e3, e4.same k⟩
/-- what the class has -/
structure ParC (K : PySem.W.Frag) (C : Addr) : Prop where
  cl : Cls K C
  nL : NoAttr K C "letters"
  nS : NoAttr K C "start"
  nP : NoAttr K C "priorities"
  nR : NoAttr K C "rows"
def spCheckS (cI : Addr) : Sp := fun vs H Q E => ∃ (z n : Int), vs = [.int z, .int n] ∧ (¬ (0 ≤ z ∧ z < n) → E (.ref cI) none H) ∧ ((0 ≤ z ∧ z < n) → Q .non H)
def spInitP (C cI : Addr) : Sp := fun vs H Q E => ∃ (x p r dx : Addr) (L s : Int) (ps : List Int) (as : List Addr) (rows : List (List Int)), vs = [.ref x, .int L, .int s, .ref p, .ref r] ∧ H x = some (.ins C dx []) ∧ H p = some (.lst (ps.map V.int)) ∧ SeqV H r (as.map V.ref) ∧ RowsQ H as rows ∧
  rows.length ≤ 1000 ∧ ps.length ≤ 1000 ∧ (∀ q ∈ rows, q.length ≤ 1000) ∧ (¬ Vld L s ps rows → E (.ref cI) none H) ∧ (Vld L s ps rows → ∀ H', Kp x H H' → ParAt C H' x L s ps rows → Q .non H')
end Bx
namespace Bx
open PySem PySem.Spec PyProof.Rows L2
theorem lc_seq {K : PySem.W.Frag} {i : Nat} {a : Addr} {xs : List V} {g : TG} {tt : TT} {te : TE} {vs : List Nat} {σ : L2.St} {H : Hp} {Q : VK} (hv : σ[i]? = some (some (.ref a))) (hq : SeqV H a xs) (Pv : Addr → Nat → Hp → Prop) (h0 : ∀ D, H D = none → Pv D 0 (upd H D (.lst [])))
    (hS : ∀ D j H', H D = none → Pv D j H' → Same H H')
    (hs : ∀ D, H D = none → ∀ i x H', xs[i]? = some x → Pv D i H' → g x (wipe σ vs) H' fun σ2 H2 => wipe σ2 vs = wipe σ vs ∧ tt σ2 H2 fun b H3 => if b = true then te σ2 H3 fun y H4 => ∃ acc, H4 D = some (.lst acc) ∧ acc.length < sizeLine ∧ Pv D (i + 1) (upd H4 D (.lst (acc ++ [y]))) else Pv D (i + 1) H3)
    (hd : ∀ D H', H D = none → Pv D xs.length H' → Q (.ref D) H') : tLc (iSeq K (tVar i)) g tt te vs σ H Q := by
  rcases hq with h | h
  · exact .inl ⟨_, hv, a, rfl, ⟨_, .of h⟩, fun D hD => lc_list (Pv D) (h0 D hD) (fun i H' _ p => .of (hS D i H' hD p _ _ h)) (hs D hD) (fun H' p => hd D H' hD p)⟩
  · exact .inr ⟨_, hv, a, rfl, ⟨_, .of h⟩, fun D hD => lc_tup (Pv D) (h0 D hD) (fun i H' _ p => .of (hS D i H' hD p _ _ h)) (hs D hD) (fun H' p => hd D H' hD p)⟩
theorem rowsUpd {H : Hp} {x : Addr} {o : HO} (hx : ∀ ys, H x ≠ some (.tup ys)) : ∀ {as : List Addr} {rs : List (List Int)}, RowsA .tup H as rs → RowsA .tup (upd H x o) as rs
  | [], [], _ => True.intro
  | a :: as, r :: rs, h => ⟨by
      have h1 := h.1
      rw [upd_ne (fun z => by rw [z] at h1; exact hx _ h1)]
      exact h1, rowsUpd hx h.2⟩
  | [], _ :: _, h => h.elim
  | _ :: _, [], h => h.elim
theorem refs_get {as : List Addr} {i : Nat} {v : V} (h : (as.map V.ref)[i]? = some v) : ∃ a, as[i]? = some a ∧ v = .ref a := by
  rw [List.getElem?_map] at h
  cases e : as[i]? with
  | none => rw [e] at h; cases h
  | some z => rw [e] at h; exact ⟨z, rfl, (Option.some.inj h).symm⟩
theorem ints_get {xs : List Int} {i : Nat} {v : V} (h : (xs.map V.int)[i]? = some v) : ∃ x, xs[i]? = some x ∧ v = .int x := by
  rw [List.getElem?_map] at h
  cases e : xs[i]? with
  | none => rw [e] at h; cases h
  | some z => rw [e] at h; exact ⟨z, rfl, (Option.some.inj h).symm⟩
theorem take_get {α : Type} {xs : List α} {i : Nat} {x : α} (h : xs[i]? = some x) : xs.take (i + 1) = xs.take i ++ [x] := by
  rw [List.take_add_one, h]
  rfl
theorem pl_next {f : Str} {v : V} {fs : List (Str × V)} {n : Nat} (h : fs.length ≤ n) : (putF f v fs).length ≤ n + 1 := Nat.le_trans (putF_len f v fs) (Nat.succ_le_succ h)
theorem pl_lt {fs : List (Str × V)} {n : Nat} (h : fs.length ≤ n) (k : n < 1000) : fs.length < 1000 := Nat.lt_of_le_of_lt h k
theorem pl_0 : ([] : List (Str × V)).length ≤ 0 := Nat.le_refl _
theorem fld_def {Kf : PySem.W.Frag} {ta tv : TE} {f : Str} {D : Ends} {σ : L2.St} {H : Hp} (h : tv σ H fun y H1 => ta σ H1 fun x H2 => ∃ a C dx fs, x = .ref a ∧ H2 a = some (.ins C dx fs) ∧ Cls Kf C ∧ NoAttr Kf C f ∧ fs.length < 1000 ∧ D.nx σ (upd H2 a (.ins C dx (putF f y fs)))) : sFld Kf ta tv f D σ H := h
theorem cb1_def {r : List V → Hp → VK → Prop} {te : TE} {σ : L2.St} {H : Hp} {Q : VK} (h : te σ H fun v H1 => r [v] H1 Q) : tCB r (tCons te tNil) σ H Q := h
theorem rows_some {mk : List V → HO} {H : Hp} : ∀ {as : List Addr} {rs : List (List Int)} {a : Addr}, RowsA mk H as rs → a ∈ as → ∃ o, H a = some o
  | [], _, _, _, h => by simp at h
  | b :: as, [], _, h, _ => h.elim
  | b :: as, r :: rs, a, h, m => by
    rcases List.mem_cons.mp m with z | z
    · rw [z]
      exact ⟨_, h.1⟩
    · exact rows_some h.2 z
theorem LL.same {H H' : Hp} {r : Addr} {as : List Addr} {rows : List (List Int)} (k : Same H H') (h : LL H r as rows) : LL H' r as rows := ⟨k _ _ h.1, h.2.same k⟩
def exS (d : Scope) : Expr → Scope
  | .ListComp _ _ s _ => s
  | .Call _ (.ListComp _ _ s _ :: _) _ _ => s
  | _ => d
def stS (d : Scope) (i : Nat) (b : List Stmt) : Scope := match b[i]? with
  | some (.Return (some e) _) => exS d e
  | some (.Assign _ e _) => exS d e
  | _ => d
/-- ascending numbers below n -/
def Asc (n : Int) (xs : List Int) : Prop := xs.Pairwise (· < ·) ∧ ∀ x ∈ xs, 0 ≤ x ∧ x < n
/-- rows of rows of ints -/
def CubB (mk : List V → HO) (H : Hp) : List Addr → List (List Addr) → List (List (List Int)) → Prop
  | [], [], [] => True
  | a :: as, bs :: bss, r :: rs => (H a = some (mk (bs.map V.ref)) ∧ RowsA mk H bs r) ∧ CubB mk H as bss rs
  | _, _, _ => False
theorem cub_keep {mk : List V → HO} {H H' : Hp} : ∀ {as : List Addr} {bss : List (List Addr)} {c : List (List (List Int))}, (∀ b o, (b ∈ as ∨ ∃ bs ∈ bss, b ∈ bs) → H b = some o → H' b = some o) → CubB mk H as bss c → CubB mk H' as bss c
  | [], [], [], _, _ => True.intro
  | a :: as, bs :: bss, r :: rs, k, h => ⟨⟨k a _ (.inl List.mem_cons_self) h.1.1, h.1.2.keep fun b o hb => k b o (.inr ⟨bs, List.mem_cons_self, hb⟩)⟩, cub_keep (fun b o hb => k b o (by
      rcases hb with z | ⟨q, z, y⟩
      · exact .inl (List.mem_cons_of_mem _ z)
      · exact .inr ⟨q, List.mem_cons_of_mem _ z, y⟩)) h.2⟩
  | [], [], _ :: _, _, h => h.elim
  | [], _ :: _, _, _, h => h.elim
  | _ :: _, [], _, _, h => h.elim
  | _ :: _, _ :: _, [], _, h => h.elim
theorem cub_same {mk : List V → HO} {H H' : Hp} {as : List Addr} {bss : List (List Addr)} {c : List (List (List Int))} (s : Same H H') (h : CubB mk H as bss c) : CubB mk H' as bss c := cub_keep (fun b o _ e => s b o e) h
theorem cub_len {mk : List V → HO} {H : Hp} : ∀ {as : List Addr} {bss : List (List Addr)} {c : List (List (List Int))}, CubB mk H as bss c → as.length = c.length ∧ bss.length = c.length
  | [], [], [], _ => ⟨rfl, rfl⟩
  | a :: as, bs :: bss, r :: rs, h => ⟨congrArg (· + 1) (cub_len h.2).1, congrArg (· + 1) (cub_len h.2).2⟩
  | [], [], _ :: _, h => h.elim
  | [], _ :: _, _, h => h.elim
  | _ :: _, [], _, h => h.elim
  | _ :: _, _ :: _, [], h => h.elim
theorem cub_snoc {mk : List V → HO} {H : Hp} {a : Addr} {bs : List Addr} {r : List (List Int)} (h1 : H a = some (mk (bs.map V.ref))) (h2 : RowsA mk H bs r) : ∀ {as : List Addr} {bss : List (List Addr)} {c : List (List (List Int))}, CubB mk H as bss c → CubB mk H (as ++ [a]) (bss ++ [bs]) (c ++ [r])
  | [], [], [], _ => ⟨⟨h1, h2⟩, True.intro⟩
  | b :: as, cs :: bss, q :: rs, h => ⟨h.1, cub_snoc h1 h2 h.2⟩
  | [], [], _ :: _, h => h.elim
  | [], _ :: _, _, h => h.elim
  | _ :: _, [], _, h => h.elim
  | _ :: _, _ :: _, [], h => h.elim
theorem cub_get {mk : List V → HO} {H : Hp} : ∀ {as : List Addr} {bss : List (List Addr)} {c : List (List (List Int))} {i : Nat} {a : Addr}, CubB mk H as bss c → as[i]? = some a → ∃ bs r, bss[i]? = some bs ∧ c[i]? = some r ∧ H a = some (mk (bs.map V.ref)) ∧ RowsA mk H bs r
  | [], _, _, _, _, _, e => by simp at e
  | a :: as, bs :: bss, r :: rs, 0, b, h, e => by
    have : a = b := Option.some.inj e
    subst this
    exact ⟨bs, r, rfl, rfl, h.1.1, h.1.2⟩
  | a :: as, bs :: bss, r :: rs, i + 1, b, h, e => cub_get (i := i) h.2 e
  | _ :: _, [], _, _, _, h, _ => h.elim
  | _ :: _, _ :: _, [], _, _, h, _ => h.elim
theorem cub_some {mk : List V → HO} {H : Hp} : ∀ {as : List Addr} {bss : List (List Addr)} {c : List (List (List Int))} {b : Addr}, CubB mk H as bss c → (b ∈ as ∨ ∃ bs ∈ bss, b ∈ bs) → ∃ o, H b = some o
  | [], [], _, _, _, h => by
    rcases h with h | ⟨_, h, _⟩
    · simp at h
    · simp at h
  | a :: as, bs :: bss, r :: rs, b, h, m => by
    rcases m with m | ⟨q, m, y⟩
    · rcases List.mem_cons.mp m with z | z
      · rw [z]; exact ⟨_, h.1.1⟩
      · exact cub_some h.2 (.inl z)
    · rcases List.mem_cons.mp m with z | z
      · rw [z] at y; exact rows_some h.1.2 y
      · exact cub_some h.2 (.inr ⟨q, z, y⟩)
  | [], _ :: _, _, _, h, _ => h.elim
  | _ :: _, [], _, _, h, _ => h.elim
  | _ :: _, _ :: _, [], _, h, _ => h.elim
/-- an object that is not one of the rows may change -/
theorem cub_tup {H : Hp} {x : Addr} {o : HO} (hx : ∀ ys, H x ≠ some (.tup ys)) : ∀ {as : List Addr} {bss : List (List Addr)} {c : List (List (List Int))}, CubB .tup H as bss c → CubB .tup (upd H x o) as bss c
  | [], [], [], _ => True.intro
  | a :: as, bs :: bss, r :: rs, h => ⟨⟨by
      have h1 := h.1.1
      rw [upd_ne (fun z => by rw [z] at h1; exact hx _ h1)]
      exact h1, rowsUpd hx h.1.2⟩, cub_tup hx h.2⟩
  | [], [], _ :: _, h => h.elim
  | [], _ :: _, _, h => h.elim
  | _ :: _, [], _, h => h.elim
  | _ :: _, _ :: _, [], h => h.elim
theorem rows_kp {mk : List V → HO} {H H' : Hp} {x : Addr} (hx : ∀ ys, H x ≠ some (mk ys)) (k : Kp x H H') : ∀ {as : List Addr} {rs : List (List Int)}, RowsA mk H as rs → RowsA mk H' as rs
  | [], [], _ => True.intro
  | a :: as, r :: rs, h => ⟨k _ _ (fun z => by have h1 := h.1; rw [z] at h1; exact hx _ h1) h.1, rows_kp hx k h.2⟩
  | [], _ :: _, h => h.elim
  | _ :: _, [], h => h.elim
theorem cub_kp {mk : List V → HO} {H H' : Hp} {x : Addr} (hx : ∀ ys, H x ≠ some (mk ys)) (k : Kp x H H') : ∀ {as : List Addr} {bss : List (List Addr)} {c : List (List (List Int))}, CubB mk H as bss c → CubB mk H' as bss c
  | [], [], [], _ => True.intro
  | a :: as, bs :: bss, r :: rs, h => ⟨⟨k _ _ (fun z => by have h1 := h.1.1; rw [z] at h1; exact hx _ h1) h.1.1, rows_kp hx k h.1.2⟩, cub_kp hx k h.2⟩
  | [], [], _ :: _, h => h.elim
  | [], _ :: _, _, h => h.elim
  | _ :: _, [], _, h => h.elim
  | _ :: _, _ :: _, [], h => h.elim
def bf (L : Int) (it at_ rt : Addr) : List (Str × V) := putF "rows" (.ref rt) (putF "accepting" (.ref at_) (putF "initial" (.ref it) (putF "letters" (.int L) [])))
theorem bf_L (L : Int) (a b c : Addr) : (bf L a b c).lookup ("letters" : Str) = some (.int L) := by
  unfold bf
  rw [lookup_putF, if_neg (by decide +kernel), lookup_putF, if_neg (by decide +kernel), lookup_putF, if_neg (by decide +kernel), lookup_putF, if_pos rfl]
theorem bf_i (L : Int) (a b c : Addr) : (bf L a b c).lookup ("initial" : Str) = some (.ref a) := by
  unfold bf
  rw [lookup_putF, if_neg (by decide +kernel), lookup_putF, if_neg (by decide +kernel), lookup_putF, if_pos rfl]
theorem bf_a (L : Int) (a b c : Addr) : (bf L a b c).lookup ("accepting" : Str) = some (.ref b) := by
  unfold bf
  rw [lookup_putF, if_neg (by decide +kernel), lookup_putF, if_pos rfl]
theorem bf_r (L : Int) (a b c : Addr) : (bf L a b c).lookup ("rows" : Str) = some (.ref c) := by
  unfold bf
  rw [lookup_putF, if_pos rfl]
def AutAt (C : Addr) (H : Hp) (x : Addr) (L : Int) (ini acc : List Int) (c : List (List (List Int))) : Prop := ∃ (dx it at_ rt : Addr) (as : List Addr) (bss : List (List Addr)), H x = some (.ins C dx (bf L it at_ rt)) ∧ TupI H it ini ∧ TupI H at_ acc ∧ H rt = some (.tup (as.map V.ref)) ∧ CubB .tup H as bss c
theorem aut_same {C : Addr} {H H' : Hp} {x : Addr} {L : Int} {ini acc : List Int} {c : List (List (List Int))} (k : Same H H') (h : AutAt C H x L ini acc c) : AutAt C H' x L ini acc c := by
  obtain ⟨dx, it, at_, rt, as, bss, e1, e2, e3, e4, e5⟩ := h
  exact ⟨dx, it, at_, rt, as, bss, k _ _ e1, k _ _ e2, k _ _ e3, k _ _ e4, cub_same k e5⟩
structure AutC (K : PySem.W.Frag) (C : Addr) : Prop where
  cl : Cls K C
  nL : NoAttr K C "letters"
  nI : NoAttr K C "initial"
  nA : NoAttr K C "accepting"
  nR : NoAttr K C "rows"
  c1 : PySem.W.findIn K (.ref C) "__class__" = some (some (.builtin "object.__class__"))
  c2 : PySem.W.specialIn K (.builtin "object.__class__") "__get__" = some (some (.builtin "getset_descriptor.__get__"))
  c3 : PySem.W.takesIn K (.builtin "object.__class__") = some true
  c4 : PySem.W.mroIn K C (.type "object") = some true
  c5 : PySem.W.kitOne K (.ref C) (.ref C) = some true
def VldB (L : Int) (ini acc : List Int) (c : List (List (List Int))) : Prop := 1 ≤ L ∧ c ≠ [] ∧ Asc c.length ini ∧ Asc c.length acc ∧ ∀ r ∈ c, (r.length : Int) = L ∧ ∀ e ∈ r, Asc c.length e
/-- a list of lists of lists -/
def LC (H : Hp) (r : Addr) (as : List Addr) (bss : List (List Addr)) (c : List (List (List Int))) : Prop := H r = some (.lst (as.map V.ref)) ∧ CubB .lst H as bss c
def spChecks (cI : Addr) : Sp := fun vs H Q E => ∃ (a : Addr) (xs : List Int) (n : Int), vs = [.ref a, .int n] ∧ H a = some (.lst (xs.map V.int)) ∧ (¬ Asc n xs → E (.ref cI) none H) ∧ (Asc n xs → Q .non H)
def spInitB (C cI : Addr) : Sp := fun vs H Q E => ∃ (x i a r dx : Addr) (L : Int) (ini acc : List Int) (as : List Addr) (bss : List (List Addr)) (c : List (List (List Int))), vs = [.ref x, .int L, .ref i, .ref a, .ref r] ∧ H x = some (.ins C dx []) ∧ H i = some (.lst (ini.map V.int)) ∧ H a = some (.lst (acc.map V.int)) ∧ LC H r as bss c ∧
  c.length ≤ 1000 ∧ (∀ r ∈ c, r.length ≤ 1000) ∧ (¬ VldB L ini acc c → E (.ref cI) none H) ∧ (VldB L ini acc c → ∀ H', Kp x H H' → AutAt C H' x L ini acc c → Q .non H')
end Bx

/-! ### own rules: a list extended by a tuple; a tuple's slice with a step -/
namespace Tx
open PySem PySem.Spec PyProof.Rows L2
section
variable {prog : Program} {w : World} {A : Around} {E : Value → Shared → Prop} {s : Shared}
set_option maxRecDepth 8000 in
theorem ext_tup (l b : Addr) (xs ys : Array Value) (n m : Nat) (dd : Option Addr) (sl : Array (Option Value)) (h0 : ¬(!xs.isEmpty && Builtin.List.listTooLong (xs.size + ys.size)) = true) (h1 : xs.size ≤ sizeLine) (h2 : xs.size + ys.size ≤ sizeLine + 1) :
    Meets (Builtin.«list.extend» ⟨[.ref l, .ref b], []⟩) (fun _ R s => s.heap.get? l = some { cls := .type "list", data := .seq xs n } ∧ s.heap.get? b = some { cls := .type "tuple", dict := dd, data := .seq ys m, slots := sl } ∧
      R (.ok (.ret Value.none)) { s with heap := s.heap.update l (Obj.mapSeq fun x => x ++ ys), toks := s.toks }) := .of_wp fun prog w A R s h => by
  obtain ⟨hp, g, d, tk, os⟩ := s
  obtain ⟨hl, hb, h⟩ := h
  have q1 := AutoSeq1.idx_int
  have q2 := AutoSeq1.sub_tuple_tuple
  have q3 := AutoSeq1.sub_list_list
  have q4 := AutoSeq1.sub_tuple_list
  have q5 := AutoSeq1.sub_list_tuple
  have hz : (xs ++ ys).size ≤ sizeLine + 1 := by
    rw [Array.size_append]
    exact h2
  wp_walk using (wpAny_updateSeq hl rfl (hz := h1) (_hz' := hz)), AutoSeq1.wpAny_loadPart' hl, AutoSeq1.wpAny_loadPart' hb
  exact ⟨_, rfl, h⟩
end
section
variable {X : Cx} {K : PySem.W.Frag}
def rExtT (K : PySem.W.Frag) : V → List V → Hp → VK → Prop := fun x vs H Q => ∃ l b xs zs, x = .ref l ∧ vs = [.ref b] ∧ H l = some (.lst xs) ∧ SqT K H b zs ∧ xs.length + zs.length ≤ sizeLine ∧ Q .non (upd H l (.lst (xs ++ zs)))
theorem mt_extT (hK : X.K = K) : MtM X "list.extend" (rExtT K) := by
  subst hK
  intro pins s σ H x vs v us Q I rx rv ⟨l, b, xs, zs, ex, ev, hH, hB, hz, q⟩
  subst ex
  subst ev
  cases rx
  obtain ⟨u, rfl, ru⟩ := rv.one
  cases ru
  obtain ⟨z, its, n, r, hl, e⟩ := I.lstM hH
  obtain ⟨its2, r2, ⟨⟨oc, od, ob, os⟩, e2, ec, m, eb⟩, z2⟩ := I.tuple hB
  have hl2 := r2.length
  dsimp only at ec eb
  subst ec
  subst eb
  have hs : its.toArray.size + its2.toArray.size ≤ sizeLine := by
    rw [List.size_toArray, List.size_toArray]
    omega
  refine call_meets F.slot_list_extend ⟨_, e, rfl⟩ F.entry_list_extend (F.args_list_extend_2 _ _) (ext_tup l b its.toArray its2.toArray n m od os (fun c => ?_) (by omega) (by omega)) ⟨e, e2, ?_⟩
  · rw [notLongL hs, Bool.and_false] at c
    cases c
  · refine ⟨.non, _, I.lset (its' := its ++ its2) hH e (by simp) (r.append r2) ?_, rfl, q⟩
    rw [List.length_append]
    omega
/-- the items that a slice with a step picks -/
def pk3 {α : Type} (xs : List α) (lo hi : Option Int) (c : Int) : List α :=
  (List.range (Builtin.Slice.slicePlaces (Builtin.Slice.sliceAdjust lo hi c xs.length).1 (Builtin.Slice.sliceAdjust lo hi c xs.length).2 c)).filterMap fun (k : Nat) => xs[((Builtin.Slice.sliceAdjust lo hi c xs.length).1 + (k : Int) * c).toNat]?
theorem pk3_vals {xs : List V} {us : List Value} (r : Vals xs us) (lo hi : Option Int) (c : Int) : Vals (pk3 xs lo hi c) (pk3 us lo hi c) := by
  unfold pk3
  rw [r.length]
  generalize List.range (Builtin.Slice.slicePlaces (Builtin.Slice.sliceAdjust lo hi c us.length).1 (Builtin.Slice.sliceAdjust lo hi c us.length).2 c) = ks
  generalize (Builtin.Slice.sliceAdjust lo hi c us.length).1 = b
  induction ks with
  | nil => exact .nil
  | cons k ks ih =>
    rw [List.filterMap_cons, List.filterMap_cons]
    cases e : xs[(b + (k : Int) * c).toNat]? with
    | none =>
      have : us[(b + (k : Int) * c).toNat]? = none := by
        rw [List.getElem?_eq_none_iff] at e ⊢
        rw [← r.length]
        exact e
      rw [this]
      exact ih
    | some x =>
      obtain ⟨u, e2, ru⟩ := Vals.get r e
      rw [e2]
      exact .cons ru ih
theorem pk3_len {α : Type} (xs : List α) (lo hi : Option Int) (c : Int) : (pk3 xs lo hi c).length ≤ Builtin.Slice.slicePlaces (Builtin.Slice.sliceAdjust lo hi c xs.length).1 (Builtin.Slice.sliceAdjust lo hi c xs.length).2 c := by
  unfold pk3
  refine Nat.le_trans (List.length_filterMap_le _ _) ?_
  rw [List.length_range]
  exact Nat.le_refl _
end
section
variable {prog : Program} {w : World} {A : Around} {E : Value → Shared → Prop} {s : Shared}
theorem applied3 {sl : Addr} {vl vu vs : Value} {lo hi : Option Int} {c : Int} {n : Nat} {Q : Int × Int × Nat → Shared → Prop} (hs : s.heap.IsSliceOf sl vl vu vs) (pl : IsPart vl lo) (pu : IsPart vu hi) (ps : IsPart vs (some c)) (hc : c ≠ 0)
    (h : Q ((Builtin.Slice.sliceAdjust lo hi c n).1, c, Builtin.Slice.slicePlaces (Builtin.Slice.sliceAdjust lo hi c n).1 (Builtin.Slice.sliceAdjust lo hi c n).2 c) s) :
    wpAny (model prog w) A (Builtin.Slice.sliceApplied (.ref sl) (pure (n : Int))) Q E s := by
  obtain ⟨ob, g1, _, g3⟩ := id hs
  unfold Builtin.Slice.sliceApplied Builtin.Slice.sliceFields
  refine wpAny_bind (wpAny_bind (wpAny_field g1 g3 (x := vl) rfl (wpAny_bind (wpAny_field g1 g3 (x := vu) rfl (wpAny_bind (wpAny_field g1 g3 (x := vs) rfl (wpAny_pure ?_)))))))
  refine wpAny_bind (HT.slicePart_ ps ?_)
  show wpAny _ _ (if (c == 0) = true then _ else _) _ _ s
  rw [if_neg (by simpa using hc)]
  refine wpAny_bind (HT.slicePart_ pl (wpAny_bind (HT.slicePart_ pu (wpAny_bind (wpAny_pure ?_)))))
  show wpAny _ _ (match Builtin.Slice.sliceAdjust lo hi c (n : Int) with | (lo, hi) => pure (lo, c, Builtin.Slice.slicePlaces lo hi c)) _ _ s
  exact wpAny_pure h
theorem item3 {t sl : Addr} {items : List Value} {vl vu vs : Value} {lo hi : Option Int} {c : Int} {Q : Value → Shared → Prop} (ht : IsTup s.heap t items.toArray) (hs : s.heap.IsSliceOf sl vl vu vs) (pl : IsPart vl lo) (pu : IsPart vu hi) (ps : IsPart vs (some c)) (hc : c ≠ 0)
    (h1 : c ≠ 1) (h : Q (.ref s.heap.objs.size) { s with heap := s.heap.push { cls := .type "tuple", data := .seq (pk3 items lo hi c).toArray } }) (hz : (pk3 items lo hi c).length ≤ sizeLine) :
    wpAny (model prog w) A (getItem (.ref t) (.ref sl)) Q E s := by
  have fits : sizeOk (.seq (pk3 items lo hi c).toArray) := by
    show (pk3 items lo hi c).toArray.size ≤ sizeLine
    rw [List.size_toArray]
    exact hz
  have isl : s.TypeIs (.ref sl) "slice" := by
    obtain ⟨ob, g1, g2, _⟩ := id hs
    exact ⟨ob, g1, g2⟩
  unfold getItem
  try with_reducible refine wpAny_holding ?_
  first | refine wpAny_bind (wpAny_pure ?_) | skip
  refine wpAny_bind (wpAny_sequenceKey ht.typeIs (by decide) (wpAny_bind (wpAny_callSpecial?_slot (name := Str.ofString "__getitem__") ht.typeIs slot_tuple_getitem (wpAny_call_entry slot_tuple_getitem ht.typeIs entry_tuple_getitem ?_ (args_tuple_getitem _ _)))))
  show wpAny _ _ (Builtin.Tuple.tupleItemsOf (.ref t) >>= _) _ _ s
  refine wpAny_bind (tupleItemsOf_ ht (wpAny_bind (wpAny_typeOf isl ?_)))
  rw [if_pos (by decide)]
  refine wpAny_bind (applied3 hs pl pu ps hc ?_)
  have no : ¬ (((Builtin.Slice.sliceAdjust lo hi c items.toArray.size).1 == 0 && c == 1 && (Builtin.Slice.slicePlaces (Builtin.Slice.sliceAdjust lo hi c items.toArray.size).1 (Builtin.Slice.sliceAdjust lo hi c items.toArray.size).2 c) == items.toArray.size) = true) := fun q => by
    rw [Bool.and_eq_true, Bool.and_eq_true] at q
    exact h1 (eq_of_beq q.1.2)
  have e : ((List.range (Builtin.Slice.slicePlaces (Builtin.Slice.sliceAdjust lo hi c items.toArray.size).1 (Builtin.Slice.sliceAdjust lo hi c items.toArray.size).2 c)).filterMap fun (k : Nat) => items.toArray[((Builtin.Slice.sliceAdjust lo hi c items.toArray.size).1 + (k : Int) * c).toNat]?) = pk3 items lo hi c := by
    unfold pk3
    rw [List.size_toArray]
    simp only [List.getElem?_toArray]
  show wpAny _ _ (if ((Builtin.Slice.sliceAdjust lo hi c items.toArray.size).1 == 0 && c == 1 && (Builtin.Slice.slicePlaces (Builtin.Slice.sliceAdjust lo hi c items.toArray.size).1 (Builtin.Slice.sliceAdjust lo hi c items.toArray.size).2 c) == items.toArray.size) = true then _ else _) _ _ s
  rw [if_neg no, e]
  first
    | exact wpAny_bind (m := Builtin.Tuple.tupleExact _) (wpAny_newObj_type (wpAny_pure ⟨_, rfl, wpAny_pure h⟩) fits)
    | exact wpAny_bind (m := Builtin.Tuple.tupleExact _) (wpAny_newObj_type (wpAny_bind (wpAny_pure (wpAny_pure ⟨_, rfl, wpAny_pure h⟩))) fits)
    | exact wpAny_bind (wpAny_bind (m := Builtin.Tuple.tupleExact _) (wpAny_newObj_type (wpAny_pure (wpAny_pure ⟨_, rfl, wpAny_pure h⟩)) fits))
    | exact wpAny_bind (wpAny_bind (m := Builtin.Tuple.tupleExact _) (wpAny_newObj_type (wpAny_pure ⟨_, rfl, wpAny_pure h⟩) fits))
end
section
variable {X : Cx} {K : PySem.W.Frag} {e s3 : Expr} {lo hi : Option Expr} {te : TE} {tl th t3 : TO} {p3 pos : Pos}
def tSl3 (K : PySem.W.Frag) (te : TE) (tl th t3 : TO) : TE := fun σ H Q => te σ H fun x H1 => tl σ H1 fun l H2 => th σ H2 fun u H3 => t3 σ H3 fun c H4 => ∃ a xs k, x = .ref a ∧ c = some k ∧ SqT K H4 a xs ∧ k ≠ 0 ∧ k ≠ 1 ∧ (pk3 xs l u k).length ≤ sizeLine ∧
  ∀ p, H4 p = none → Q (.ref p) (upd H4 p (.tup (pk3 xs l u k)))
theorem pe_sl3 (hK : X.K = K) (he : PE X e te) (hl : PO X lo tl) (hu : PO X hi th) (h3 : PO X (some s3) t3) (ho : ∀ a b : Addr, ∃ ops, subscripted (Expr.Slice lo hi (some s3) p3) false (.ref a) (.ref b) = operate ops (getItem (.ref a) (.ref b)) := by exact fun _ _ => ⟨_, rfl⟩) : PE X (.Subscript e (.Slice lo hi (some s3) p3) pos) (tSl3 K te tl th t3) := by
  subst hK
  refine ⟨fun pins s σ H Q I h => Subscript_ (thn (he.run pins s σ H _ I h) fun v s1 ⟨x, H1, I1, r1, q1⟩ => wpAny_Slice (thn (hl.run pins s1 σ H1 _ I1 q1) fun vl s2 ⟨l, H2, I2, pl, q2⟩ => thn (hu.run pins s2 σ H2 _ I2 q2) fun vu s4 ⟨u, H3, I3, pu, q3⟩ =>
    thn (h3.run pins s4 σ H3 _ I3 q3) fun vc s5 ⟨c, H4, I4, pc, q4⟩ => ?_))⟩
  obtain ⟨a, xs, k, ex, ec, hx, k0, k1, hz, q⟩ := q4
  subst ex
  subst ec
  cases r1
  have I5 : Inv X pins σ H4 { s5 with heap := s5.heap.push { cls := .type "slice", data := .fields #[vl, vu, vc] } } := I4.kept (t' := s5.toks) fun b ob q => Heap.get?_push_of_some _ q
  obtain ⟨its, r, ht, _⟩ := I5.tuple hx
  have rv := pk3_vals r l u k
  show wpAny (model X.prog X.w) X.A (subscriptTail e (.Slice lo hi (some s3) p3) (.ref a) (.ref s5.heap.objs.size)) (EP X pins σ Q) X.xe { s5 with heap := s5.heap.push { cls := .type "slice", data := .fields #[vl, vu, vc] } }
  obtain ⟨ops, hops⟩ := ho a s5.heap.objs.size
  refine tail_any (ops := ops) ht.typeIs (slot_tuple_getitem.lookup) ?_ hops
  refine item3 ht (Heap.IsSliceOf.new _ vl vu vc) pl pu pc k0 k1 ?_ (by rw [← rv.length]; exact hz)
  refine ⟨.ref _, _, I5.laid (t' := s5.toks) (o := .tup (pk3 xs l u k)) (fun b ob q => Heap.get?_push_of_some _ q) (Nat.le_refl _) ?_, rfl, q _ (I5.hok.fresh (Nat.le_refl _))⟩
  exact ⟨hz, _, rv, IsTup.new _ _⟩
end
end Tx

/-! ### own rules: set(xs), xs a list of ints; sorted of it -/
namespace Tz
open PySem PySem.Spec PyProof.Rows L2
section
variable {P : Program} {w : World} {A : Around} {E : Value → Shared → Prop} {s : Shared}
/-- the new set, empty -/
abbrev nul (w : World) : Obj := { cls := .type "set", dict := none, data := .set #[] 0 (.fresh 0 0 (!w.params.followText "set-order")) }
/-- what the filling leaves behind -/
def Filled (w : World) (s : Shared) (ns : List Int) (s2 : Shared) : Prop := ∃ h' tk c, s2 = { s with heap := h', toks := tk } ∧ SetR w h' s.heap.objs.size (fun j => decide (j ∈ ns)) c ∧ c ≤ ns.length ∧ ∀ b o, s.heap.get? b = some o → h'.get? b = some o
theorem set_of_list {l : Addr} {items : Array Value} (ns : List Int) {Q : Value → Shared → Prop} (hh : A.handled = none) (hl : s.heap.IsList l items) (hit : IntsAre items.toList ns) (hb : ns.length + 1 < scanBound)
    (h : ∀ s2, Filled w s ns s2 → Q (.ref s.heap.objs.size) s2) : wpAny (model P w) A (call (.type "set") [.ref l]) Q E s := by
  have hisz : items.size = ns.length := by
    have q := IntsAre.length hit
    rwa [Array.length_toList] at q
  have hS : (s.heap.push (nul w)).get? s.heap.objs.size = some (nul w) := Heap.get?_push_size _ rfl
  have hlt : l < s.heap.objs.size := by
    obtain ⟨o, ho, _⟩ := hl
    exact Heap.lt_size ho
  obtain ⟨c, tl, hmro⟩ := F.called_set.mro
  have m1 := F.called_set.made
  have m2 := F.called_set.sub
  refine wpAny_call (codeAny_of_tree ?_)
  show wpAny _ _ (callAny (.type "set") _) _ _ _
  refine wpAny_pure ⟨Code.quiet_builtin _ (by decide +kernel), codeAny_builtin F.entry_type_call ?_⟩
  rw [Around.under_plain (weight_type_call_type "set" [.ref l] []) rfl]
  have m3 := F.called_set.notType
  have m4 := F.called_set.canCreate
  have m5 := F.typeCall_set_1 (.ref l)
  repeat (any_goals (first | assumption | wp_step))
  refine codeAny_mono (code_set_led1 (.ref l) (E := E) (Q₁ := fun obj s1 => obj = .ref s.heap.objs.size ∧ s1 = { s with heap := s.heap.push (nul w) }) ⟨rfl, rfl⟩) fun r s1 hr => ?_
  cases r with
  | error e => exact hr
  | ok fl =>
    cases fl with
    | next => exact hr.elim
    | brk => exact hr.elim
    | cont => exact hr.elim
    | ret obj =>
      obtain ⟨rfl, rfl⟩ := hr
      have hT : Shared.TypeIs { s with heap := s.heap.push (nul w) } (.ref s.heap.objs.size) "set" := ⟨_, hS, rfl⟩
      have m6 := F.called_set.init.lookup
      have m7 := F.called_set.init.bind (.ref s.heap.objs.size)
      repeat (any_goals (first | assumption | wp_step))
      refine codeAny_mono (codeAny_call_builtin (R := wants (fun r s2 => r = .none ∧ Filled w s ns s2) E) F.called_set.init.plain F.entry_set_init (check_set_init_1 hT ?_)) fun r2 s2 hr2 => ?_
      · obtain ⟨ol, hol, hcl, nl, hdl⟩ := hl
        obtain ⟨ocls, odict, odata, oslots⟩ := ol
        simp only at hcl hdl
        subst hcl
        subst hdl
        have hol' := Heap.get?_push_of_some (nul w) hol
        have q1 := F.sub_list_set
        have q2 := F.sub_list_frozenset
        have q3 : (Value.type "list" == Value.type "dict") = false := by decide
        have hl1 : (s.heap.push (nul w)).IsList l items := ⟨_, hol', rfl, nl, rfl⟩
        unfold Builtin.«set.__init__» noKeywords Builtin.Frozenset.updateFrom
        generalize hPI : pyIter = PI
        wp_walk
        subst hPI
        refine wpAny_pyIter_list hl1 ?_
        refine wpAny_bind (wpAny_runValue ?_)
        have hh3 : A.in1.in1.in1.handled = none := by simp [hh]
        have n1 : l ≠ (s.heap.push (nul w)).objs.size := by
          rw [Heap.size_push]
          exact Nat.ne_of_lt (Nat.lt_succ_of_lt hlt)
        have n2 : s.heap.objs.size ∉ [(s.heap.push (nul w)).objs.size, l] := by
          rw [Heap.size_push]
          simp only [List.mem_cons, List.not_mem_nil, or_false, not_or]
          exact ⟨Nat.ne_of_lt (Nat.lt_succ_self _), Nat.ne_of_gt hlt⟩
        have vals : ∀ (i : Nat) (v : Value), items[i]? = some v → ∃ k t, ns[i]? = some k ∧ v = .int k t := fun i v hv => by
          have hi : i < ns.length := by rw [← hisz]; exact (Array.getElem?_eq_some_iff.mp hv).1
          obtain ⟨t, e⟩ := PyProof.Rows.IntsAre.int_at hit i v (by rw [Array.getElem?_toList]; exact hv)
          exact ⟨ns[i], t, List.getElem?_eq_getElem hi, by rw [e, List.getD_eq_getElem?_getD, List.getElem?_eq_getElem hi]; rfl⟩
        refine set_update_ints ((Walks.list hh3 _ l n1 items).toS) s.heap.objs.size n2 ns hisz hb vals (items.size - 0) 0 _ (by omega) (Nat.zero_le _)
          ⟨⟨_, Heap.get?_push_size _ rfl, rfl, rfl⟩, (hl1.push _)⟩ ⟨0, Nat.le_refl 0, setR_new_at (Heap.get?_push_of_some _ hS)⟩ fun s' c' hm hc' hS' => ?_
        obtain ⟨h', g2, d', tk', os'⟩ := s'
        obtain rfl : g2 = s.gens := hm.gens
        obtain rfl : d' = s.drawn := hm.drawn
        obtain rfl : os' = s.os := hm.os
        show wpAny _ _ _ _ _ _
        refine wpAny_pure ?_
        show wpAny _ _ (ret Value.none) _ _ _
        rw [hisz] at hc'
        refine wpAny_pure ⟨rfl, h', tk', c', rfl, hS', hc', fun b o e => ?_⟩
        have b0 : b < s.heap.objs.size := Heap.lt_size e
        refine hm.heap b o ?_ (Heap.get?_push_of_some _ (Heap.get?_push_of_some _ e))
        rw [Heap.size_push]
        simp only [List.mem_cons, List.not_mem_nil, or_false, not_or]
        exact ⟨Nat.ne_of_lt b0, Nat.ne_of_lt (Nat.lt_succ_of_lt b0)⟩
      · cases r2 with
        | error e => exact hr2
        | ok fl2 =>
          cases fl2 with
          | next => exact hr2.elim
          | brk => exact hr2.elim
          | cont => exact hr2.elim
          | ret r =>
            obtain ⟨rfl, hf⟩ := hr2
            have hf2 := hf
            obtain ⟨h', tk, c, rfl, _⟩ := hf2
            repeat (any_goals (first | assumption | wp_step))
            exact h _ hf
end
section
variable {X : Cx} {K : PySem.W.Frag} {w : World}
/-- set(xs), xs a list of ints -/
def rSetLI (K : PySem.W.Frag) (w : World) : List V → Hp → VK → Prop := fun xs H Q => ∃ (l : Addr) (ns : List Int), xs = [V.ref l] ∧ SqL K H l (ns.map V.int) ∧ ns.length + 1 < scanBound ∧
  ∀ p c, H p = none → c ≤ ns.length → Q (.ref p) (upd H p (SetO w p (fun j => decide (j ∈ ns)) c))
theorem cr_setLI (h : X.K = K) (hw : X.w = w) (hc : X.calm = true) : CallR X (.type "set") (rSetLI K w) := by
  subst h
  subst hw
  intro pins s σ H xs us Q I r h
  obtain ⟨l, ns, rfl, hl, hb, q⟩ := h
  rw [Vals.ref1 r]
  obtain ⟨its, rv, pl, hz⟩ := I.list hl
  refine set_of_list (P := X.prog) (w := X.w) ns (I.ok.hd hc) pl.isList rv.ints hb fun s2 hf => ?_
  obtain ⟨h', tk, c, rfl, R, hcl, hk⟩ := hf
  exact ⟨.ref _, upd H s.heap.objs.size (SetO X.w s.heap.objs.size (fun j => decide (j ∈ ns)) c), I.laid (t' := tk) hk (Nat.le_refl _) (setO_new R), rfl, q _ c (I.hok.fresh (Nat.le_refl _)) hcl⟩
theorem cr_sortedSet' (hw : X.w = w) (hc : X.calm = true) : CallR X (.builtin "sorted") (rSortedSet w) := by
  subst hw
  exact cr_sortedSet hc
end
end Tz

local macro_rules | `(tactic| walk_at "bx") => `(tactic| repeat (first
  | refine ⟨_, rfl, ?_⟩
  | refine ⟨_, _, rfl, rfl, ?_⟩
  | refine ⟨rfl, ?_⟩
  | refine Or.inl ⟨_, rfl, ?_⟩
  | refine ⟨Or.inr ⟨by decide, by decide⟩, ?_⟩
  | refine ⟨Or.inl ⟨by decide, by decide⟩, ?_⟩
  | refine ⟨(show (0 : Int) < _ by decide), ?_⟩
  | refine ⟨⟨by decide, by decide⟩, ?_⟩
  | refine ⟨_, _, rfl, Or.inl (L2.SqL.of (by assumption)), ?_⟩
  | refine ⟨_, _, rfl, Or.inr (L2.SqT.of (by assumption)), ?_⟩
  | refine ⟨Or.inl ⟨rfl, _, L2.SqL.of (by assumption)⟩, ?_⟩
  | refine ⟨_, _, _, rfl, rfl, (by assumption), ?_⟩
  | refine ⟨_, _, rfl, rfl, (by assumption), ?_⟩
  | refine ⟨_, _, _, _, rfl, rfl, L2.SqT.of (by assumption), (by assumption), ?_⟩
  | refine ⟨_, _, _, _, rfl, rfl, L2.SqL.of (by assumption), (by assumption), ?_⟩
  | refine ⟨_, _, rfl, Bx.SeqI.sq (by assumption), ?_⟩
  | refine And.intro (by assumption) ?_))
local macro_rules | `(tactic| walk_at "nl") => `(tactic| ((try unfold L2.tNil); (try unfold L2.tNoPart)))

namespace My
open PySem PySem.Spec PyProof.Rows L2 Bx Tx Tz
def topS (i : Nat) : Stmt := PySem.Challenge.pw_reactivesynth_k20_hide_and_widen.main.body.getD i (.Pass ⟨0, 0, 0, 0⟩)
abbrev s_check_states : Stmt := topS 6
abbrev N_check_states : List Str := ["states", "count", "before", "state"]
theorem sc_check_states : FnScope N_check_states ["states", "count"] (defScope s_check_states) := ⟨rfl, rfl, rfl, by decide +kernel, rfl, by decide +kernel, by decide +kernel⟩
abbrev s_hide : Stmt := topS 8
abbrev N_hide : List Str := ["automaton", "letters", "rows", "row", "letter", "states", "state"]
theorem sc_hide : FnScope N_hide ["automaton", "letters"] (defScope s_hide) := ⟨rfl, rfl, rfl, by decide +kernel, rfl, by decide +kernel, by decide +kernel⟩
abbrev s_widen : Stmt := topS 9
abbrev N_widen : List Str := ["automaton", "letters", "rows", "row"]
theorem sc_widen : FnScope N_widen ["automaton", "letters"] (defScope s_widen) := ⟨rfl, rfl, rfl, by decide +kernel, rfl, by decide +kernel, by decide +kernel⟩
abbrev s_law_draws : Stmt := topS 11
abbrev N_law_draws : List Str := ["script", "count", "cells", "found", "mixed", "k", "j", "cell", "again"]
theorem sc_law_draws : FnScope N_law_draws ["script", "count"] (defScope s_law_draws) := ⟨rfl, rfl, rfl, by decide +kernel, rfl, by decide +kernel, by decide +kernel⟩
abbrev s_law_take : Stmt := topS 12
abbrev N_law_take : List Str := ["draws", "limit"]
theorem sc_law_take : FnScope N_law_take ["draws", "limit"] (defScope s_law_take) := ⟨rfl, rfl, rfl, by decide +kernel, rfl, by decide +kernel, by decide +kernel⟩
abbrev s_law_is_integer : Stmt := topS 13
abbrev N_law_is_integer : List Str := ["actual"]
theorem sc_law_is_integer : FnScope N_law_is_integer ["actual"] (defScope s_law_is_integer) := ⟨rfl, rfl, rfl, by decide +kernel, rfl, by decide +kernel, by decide +kernel⟩
abbrev s_law_integers : Stmt := topS 14
abbrev N_law_integers : List Str := ["actual", "low", "high", "item"]
theorem sc_law_integers : FnScope N_law_integers ["actual", "low", "high"] (defScope s_law_integers) := ⟨rfl, rfl, rfl, by decide +kernel, rfl, by decide +kernel, by decide +kernel⟩
abbrev s_law_lasso : Stmt := topS 15
abbrev N_law_lasso : List Str := ["draws", "letters", "longest", "head", "loop", "k"]
theorem sc_law_lasso : FnScope N_law_lasso ["draws", "letters", "longest"] (defScope s_law_lasso) := ⟨rfl, rfl, rfl, by decide +kernel, rfl, by decide +kernel, by decide +kernel⟩
abbrev s_law_lives : Stmt := topS 16
abbrev N_law_lives : List Str := ["moves", "goods", "starts", "kept", "turn", "reach", "again", "changed", "j", "k", "target", "start"]
theorem sc_law_lives : FnScope N_law_lives ["moves", "goods", "starts"] (defScope s_law_lives) := ⟨rfl, rfl, rfl, by decide +kernel, rfl, by decide +kernel, by decide +kernel⟩
abbrev s_law_ascending : Stmt := topS 17
abbrev N_law_ascending : List Str := ["draws", "limit", "share", "k"]
theorem sc_law_ascending : FnScope N_law_ascending ["draws", "limit", "share"] (defScope s_law_ascending) := ⟨rfl, rfl, rfl, by decide +kernel, rfl, by decide +kernel, by decide +kernel⟩
abbrev s_law_automaton : Stmt := topS 18
abbrev N_law_automaton : List Str := ["draws", "letters", "most", "count", "share", "initial", "accepting", "rows", "state", "letter"]
theorem sc_law_automaton : FnScope N_law_automaton ["draws", "letters", "most"] (defScope s_law_automaton) := ⟨rfl, rfl, rfl, by decide +kernel, rfl, by decide +kernel, by decide +kernel⟩
abbrev s_law_copy : Stmt := topS 19
abbrev N_law_copy : List Str := ["rows", "row", "entry"]
theorem sc_law_copy : FnScope N_law_copy ["rows"] (defScope s_law_copy) := ⟨rfl, rfl, rfl, by decide +kernel, rfl, by decide +kernel, by decide +kernel⟩
abbrev s_law_accepts : Stmt := topS 20
abbrev N_law_accepts : List Str := ["rows", "initial", "accepting", "lasso", "letters", "size", "moves", "goods", "state", "place", "after", "target"]
theorem sc_law_accepts : FnScope N_law_accepts ["rows", "initial", "accepting", "lasso"] (defScope s_law_accepts) := ⟨rfl, rfl, rfl, by decide +kernel, rfl, by decide +kernel, by decide +kernel⟩
abbrev s_law_states : Stmt := topS 21
abbrev N_law_states : List Str := ["actual", "count", "k"]
theorem sc_law_states : FnScope N_law_states ["actual", "count"] (defScope s_law_states) := ⟨rfl, rfl, rfl, by decide +kernel, rfl, by decide +kernel, by decide +kernel⟩
abbrev s_law_is_automaton : Stmt := topS 22
abbrev N_law_is_automaton : List Str := ["actual", "letters", "count", "row", "entry"]
theorem sc_law_is_automaton : FnScope N_law_is_automaton ["actual", "letters"] (defScope s_law_is_automaton) := ⟨rfl, rfl, rfl, by decide +kernel, rfl, by decide +kernel, by decide +kernel⟩
abbrev s_law_hide_outcome : Stmt := topS 23
abbrev N_law_hide_outcome : List Str := ["automaton", "letters"]
theorem sc_law_hide_outcome : FnScope N_law_hide_outcome ["automaton", "letters"] (defScope s_law_hide_outcome) := ⟨rfl, rfl, rfl, by decide +kernel, rfl, by decide +kernel, by decide +kernel⟩
abbrev s_law_widen_outcome : Stmt := topS 24
abbrev N_law_widen_outcome : List Str := ["automaton", "letters"]
theorem sc_law_widen_outcome : FnScope N_law_widen_outcome ["automaton", "letters"] (defScope s_law_widen_outcome) := ⟨rfl, rfl, rfl, by decide +kernel, rfl, by decide +kernel, by decide +kernel⟩
abbrev s_law_merged : Stmt := topS 25
abbrev N_law_merged : List Str := ["rows", "letters", "found", "row", "merged", "letter", "targets", "k"]
theorem sc_law_merged : FnScope N_law_merged ["rows", "letters"] (defScope s_law_merged) := ⟨rfl, rfl, rfl, by decide +kernel, rfl, by decide +kernel, by decide +kernel⟩
abbrev s_law : Stmt := topS 26
abbrev N_law : List Str := ["script", "draws", "many", "initial", "accepting", "rows", "automaton", "letters", "hidden", "wide", "lasso", "expected", "low", "letter"]
theorem sc_law : FnScope N_law ["script"] (defScope s_law) := ⟨rfl, rfl, rfl, by decide +kernel, rfl, by decide +kernel, by decide +kernel⟩
abbrev s_Automaton_init : Stmt := inClass (topS 5) 0
abbrev N_Automaton_init : List Str := ["self", "letters", "initial", "accepting", "rows", "row", "states"]
theorem sc_Automaton_init : FnScope N_Automaton_init ["self", "letters", "initial", "accepting", "rows"] (defScope s_Automaton_init) := ⟨rfl, rfl, rfl, by decide +kernel, rfl, by decide +kernel, by decide +kernel⟩
structure Has (K : PySem.W.Frag) (mg : Str → Option Value) (x : Str) (st : Stmt) (ps : List Str) : Prop where
  ex : ∃ (f : Addr) (fd : FuncData), L2.Fun K x x st f fd ∧ mg x = some (.ref f) ∧ Binds K fd ps []
structure Txt (K : PySem.W.Frag) (mg : Str → Option Value) : Prop where
  h_check_states : Has K mg "check_states" s_check_states ["states", "count"]
  h_hide : Has K mg "hide" s_hide ["automaton", "letters"]
  h_widen : Has K mg "widen" s_widen ["automaton", "letters"]
  h_law_draws : Has K mg "_law_draws" s_law_draws ["script", "count"]
  h_law_take : Has K mg "_law_take" s_law_take ["draws", "limit"]
  h_law_is_integer : Has K mg "_law_is_integer" s_law_is_integer ["actual"]
  h_law_integers : Has K mg "_law_integers" s_law_integers ["actual", "low", "high"]
  h_law_lasso : Has K mg "_law_lasso" s_law_lasso ["draws", "letters", "longest"]
  h_law_lives : Has K mg "_law_lives" s_law_lives ["moves", "goods", "starts"]
  h_law_ascending : Has K mg "_law_ascending" s_law_ascending ["draws", "limit", "share"]
  h_law_automaton : Has K mg "_law_automaton" s_law_automaton ["draws", "letters", "most"]
  h_law_copy : Has K mg "_law_copy" s_law_copy ["rows"]
  h_law_accepts : Has K mg "_law_accepts" s_law_accepts ["rows", "initial", "accepting", "lasso"]
  h_law_states : Has K mg "_law_states" s_law_states ["actual", "count"]
  h_law_is_automaton : Has K mg "_law_is_automaton" s_law_is_automaton ["actual", "letters"]
  h_law_hide_outcome : Has K mg "_law_hide_outcome" s_law_hide_outcome ["automaton", "letters"]
  h_law_widen_outcome : Has K mg "_law_widen_outcome" s_law_widen_outcome ["automaton", "letters"]
  h_law_merged : Has K mg "_law_merged" s_law_merged ["rows", "letters"]
  z_bool : mg "bool" = none
  z_int : mg "int" = none
  z_isinstance : mg "isinstance" = none
  z_len : mg "len" = none
  z_list : mg "list" = none
  z_max : mg "max" = none
  z_range : mg "range" = none
  z_set : mg "set" = none
  z_sorted : mg "sorted" = none
  z_tuple : mg "tuple" = none
  er : ∃ (cM cI C fI : Addr) (fdI : FuncData), ErrC K mg "InvalidAutomaton" cI ∧ AutC K C ∧ Mk K C fI ∧ mg "Automaton" = some (.ref C) ∧ L2.Fun K "__init__" "Automaton.__init__" s_Automaton_init fI fdI ∧ Binds K fdI ["self", "letters", "initial", "accepting", "rows"] [] ∧ ErrC K mg "Mismatch" cM

-- BODY
def spLaw (K : PySem.W.Frag) : Sp := fun vs H Q _ => ∃ (a : Addr) (ns : List Int), vs = [.ref a] ∧ SqL K H a (ns.map V.int) ∧ ns.length ≤ 63 ∧ ∀ H', Q (.bl true) H'
section
variable {P : Program} {w : World} {K : PySem.W.Frag} {mg : Str → Option Value} {base : Heap}
theorem cal_take (T : Txt K mg) : C8.Cal P w K mg base 1 "_law_take" spTake [] := by
  obtain ⟨f, fd, F, hm, hb⟩ := T.h_law_take
  refine ⟨f, fd, _, [], F.ok sc_law_take (fun vs H Q E h => ?_) (fun cdv A outer s H vs Q E hr h => ?_), hm, F.kp, hb, .nil⟩
  · obtain ⟨d, n, rfl, _⟩ := h
    rfl
  · obtain ⟨d, n, rfl, ⟨ds, hd⟩, hn, q⟩ := h
    refine ⟨_, (pss_cons
      (ps_if (pt_cmpR op_eq (pe_callB (call_lenK (K := K) rfl) (by rfl) T.z_len PySem.boot_len (pa_cons (pv 0) pa_nil)) pe_int (nomark _)) (pss_one
      (ps_ret pe_int)) pss_nil)
      (pss_one
      (ps_ret (pe_op op_mod (pe_callTy call_int1 (by rfl) T.z_int (by decide +kernel) (pa_cons (pe_bm0 PySem.F.plainAttrs_list PySem.F.slot_list_pop PySem.F.type_list_pop mt_pop (pv 0)) pa_nil)) (pv 1))))), ?_⟩
    walk_at "bx"
    refine ite2 (fun e => ?_) (fun e => ?_)
    · have q0 := q 0 ds (Int.le_refl 0) hn
      rw [upd_self hd] at q0
      exact q0
    · have hne : ds ≠ [] := fun z => e (by rw [z]; rfl)
      refine ⟨_, rfl, .inl ⟨rfl, _, SqL.of hd⟩, d, _, .int (ds.getLast hne), rfl, rfl, hd, ?_, ?_⟩
      · rw [List.length_map, List.getElem?_map, ← List.getLast?_eq_getElem?, List.getLast?_eq_getLast hne]
        rfl
      · walk_at "bx"
        rw [← List.map_dropLast]
        exact q _ _ (Int.emod_nonneg _ (by omega)) (Int.emod_lt_of_pos _ hn)
theorem cal_isint (T : Txt K mg) : C8.Cal P w K mg base 1 "_law_is_integer" spIsInt [] := by
  obtain ⟨f, fd, F, hm, hb⟩ := T.h_law_is_integer
  refine ⟨f, fd, _, [], F.ok sc_law_is_integer (fun vs H Q E h => ?_) (fun cdv A outer s H vs Q E hr h => ?_), hm, F.kp, hb, .nil⟩
  · obtain ⟨i, rfl, _⟩ := h
    rfl
  · obtain ⟨i, rfl, q⟩ := h
    refine ⟨_, (pss_one
      (ps_ret (pe_and (pe_callB (call_isiK' (K := K) rfl) (by rfl) T.z_isinstance (by decide +kernel) (pa_cons (pv 0) (pa_cons (pe_bltn (v := .ty "int") (by rfl) T.z_int (by decide +kernel) rfl) pa_nil))) (pe_one (pe_not (pe_callB (call_isiK' (K := K) rfl) (by rfl) T.z_isinstance (by decide +kernel) (pa_cons (pv 0) (pa_cons (pe_bltn (v := .ty "bool") (by rfl) T.z_bool (by decide +kernel) rfl) pa_nil)))))))), ?_⟩
    refine ⟨_, rfl, _, _, _, _, true, rfl, .ty "int", .base (.int i), kit_ty (by decide +kernel), true, rfl, iteT ?_⟩
    exact ⟨_, rfl, _, _, _, _, false, rfl, .ty "bool", .base (.int i), kit_ty (by decide +kernel), false, rfl, q⟩
theorem cal_draws (T : Txt K mg) : C8.Cal P w K mg base 1 "_law_draws" (spDraws K) [] := by
  obtain ⟨f, fd, F, hm, hb⟩ := T.h_law_draws
  refine ⟨f, fd, _, [], F.ok sc_law_draws (fun vs H Q E h => ?_) (fun cdv A outer s H vs Q E hr h => ?_), hm, F.kp, hb, .nil⟩
  · obtain ⟨a, ns, c, rfl, _⟩ := h
    rfl
  · obtain ⟨a, ns, n, rfl, hS, hn, q⟩ := h
    refine ⟨_, (pss_cons
      (ps_set (i := 2) sc_law_draws.nd rfl (Or.inl rfl) (pe_callTy (call_list_ofK (K := K) rfl) (by rfl) T.z_list (by decide +kernel) (pa_cons (pv 0) pa_nil)))
      (C8.pss_cut
      (ps_if (pt_cmpR op_eq (pe_callB (call_lenK (K := K) rfl) (by rfl) T.z_len PySem.boot_len (pa_cons (pv 2) pa_nil)) pe_int (nomark _)) (pss_one
      (ps_set (i := 2) sc_law_draws.nd rfl (Or.inl rfl) (pe_lst (pa_cons pe_int pa_nil)))) pss_nil)
      (pss_cons
      (ps_set (i := 3) sc_law_draws.nd rfl (Or.inl rfl) (pe_lst pa_nil))
      (pss_cons
      (ps_set (i := 4) sc_law_draws.nd rfl (Or.inl rfl) pe_int)
      (pss_cons
      (ps_for PassesOwn.never rfl (pi_range1 (by rfl) T.z_range (pa_cons (pv 1) pa_nil)) (pg_name (i := 5) sc_law_draws.nd rfl (.inl rfl)) (pss_cons
      (ps_set (i := 6) sc_law_draws.nd rfl (Or.inl rfl) (pe_op op_mod (pv 5) (pe_callB (call_lenK (K := K) rfl) (by rfl) T.z_len PySem.boot_len (pa_cons (pv 2) pa_nil))))
      (pss_cons
      (ps_set (i := 7) sc_law_draws.nd rfl (Or.inl rfl) (pe_ix (ix_listK (K := K) rfl) (pv 2) (pv 6) (fun _ _ => rfl)))
      (pss_cons
      (ps_set (i := 4) sc_law_draws.nd rfl (Or.inl rfl) (pe_op op_mod (pe_callTy call_int1 (by rfl) T.z_int (by decide +kernel) (pa_cons (pe_op op_add (pe_op op_add (pe_op op_add (pe_op op_mul (pv 4) pe_int) (pe_op op_mul (pe_op op_mod (pe_callTy call_int1 (by rfl) T.z_int (by decide +kernel) (pa_cons (pv 7) pa_nil)) pe_int) pe_int)) (pe_op op_mul (pv 5) pe_int)) pe_int) pa_nil)) pe_int))
      (pss_cons
      (ps_set (i := 8) sc_law_draws.nd rfl (Or.inl rfl) (pe_op op_mod (pe_callTy call_int1 (by rfl) T.z_int (by decide +kernel) (pa_cons (pe_op op_add (pe_op op_add (pe_op op_mul (pv 4) (pv 4)) (pe_op op_mul pe_int (pv 4))) (pv 5)) pa_nil)) pe_int))
      (pss_one
      (ps_if (pt_cmpR op_ge (pv 7) (pe_op op_pow pe_int pe_int) (nomark _)) (pss_cons
      (ps_expr (pe_bm PySem.F.plainAttrs_list PySem.F.slot_list_append PySem.F.type_list_append mt_append (pv 3) (pa_cons (pe_op op_mod (pe_callTy call_int1 (by rfl) T.z_int (by decide +kernel) (pa_cons (pv 7) pa_nil)) pe_int) pa_nil)))
      (pss_one
      (ps_asg (pe_op op_fdiv (pv 7) pe_int) (pg_sub (pv 2) (pv 6) set_list)))) (pss_one
      (ps_expr (pe_bm PySem.F.plainAttrs_list PySem.F.slot_list_append PySem.F.type_list_append mt_append (pv 3) (pa_cons (pe_op op_mod (pe_callTy call_int1 (by rfl) T.z_int (by decide +kernel) (pa_cons (pv 8) pa_nil)) pe_int) pa_nil)))))))))))
      (pss_cons
      (ps_expr (pe_bm0 PySem.F.plainAttrs_list PySem.F.slot_list_reverse PySem.F.type_list_reverse mt_reverse (pv 3)))
      (pss_one
      (ps_ret (pv 3))))))))), ?_⟩
    -- cells = list(script)
    refine ⟨_, rfl, a, _, rfl, .inl hS, fun l hl => ?_⟩
    -- if len(cells) == 0: cells = [7]
    refine ⟨fun σ H2 => ∃ (c : Addr) (cs : List Int), σ = [some (.ref a), some (.int n), some (.ref c), none, none, none, none, none, none] ∧ H c = none ∧ Same H H2 ∧ H2 c = some (.lst (cs.map V.int)) ∧ cs ≠ [], ?_, ?_⟩
    · have h0 : (upd H l (.lst (ns.map V.int))) l = some (.lst (ns.map V.int)) := upd_same
      walk_at "bx"
      refine ite2 (fun e => ?_) (fun e => ?_)
      · refine ⟨by show 1 ≤ sizeLine; decide, fun l2 h2 => ?_⟩
        have s1 : Same H (upd H l (.lst (ns.map V.int))) := same_new hl
        exact ⟨l2, [7], rfl, s1.free h2, s1.trans (same_new h2), upd_same, by decide⟩
      · exact ⟨l, ns, rfl, hl, same_new hl, upd_same, fun z => e (by rw [z]; rfl)⟩
    · rintro σ H2 ⟨c, cs, rfl, hc0, s2, hc, hcs⟩
      -- found = [], mixed = 12345
      refine ⟨Nat.zero_le _, fun o ho => ?_⟩
      have hco : c ≠ o := ne_of_none hc ho
      have ho0 : H o = none := s2.free ho
      -- for k in range(count)
      refine ⟨_, rfl, _, rfl, by omega, by omega, for_range (lo := 0) (n := ((n : Int)).toNat) (fun i σ H3 => ∃ (m : Int) (cs fs : List Int) (v5 v6 v7 v8 : Option V), σ = [some (.ref a), some (.int n), some (.ref c), some (.ref o), some (.int m), v5, v6, v7, v8] ∧ 0 ≤ m ∧ m < 2147483647 ∧ Same H H3 ∧ H3 c = some (.lst (cs.map V.int)) ∧ cs ≠ [] ∧ H3 o = some (.lst (fs.map V.int)) ∧ fs.length ≤ i)
        ⟨12345, cs, [], none, none, none, none, rfl, by decide, by decide, s2.trans (same_new ho), by rw [upd_ne hco]; exact hc, hcs, upd_same, Nat.le_refl _⟩ ?_ ?_⟩
      · rintro i σ H3 hi ⟨m, cs, fs, v5, v6, v7, v8, rfl, m0, m1, s3, hc, hcs, hf, hfl⟩
        have hl : 0 < cs.length := List.length_pos_iff.mpr hcs
        obtain ⟨z, hz⟩ : ∃ z, cs[i % cs.length]? = some z := ⟨_, List.getElem?_eq_getElem (Nat.mod_lt _ hl)⟩
        have ej : ((0 : Int) + (i : Int)) % (((cs.map V.int).length : Nat) : Int) = ((i % cs.length : Nat) : Int) := by
          rw [Int.zero_add, List.length_map]
          rfl
        -- j = k % len(cells)
        walk_at "bx"
        refine ⟨(show (0 : Int) < _ by rw [List.length_map]; omega), ?_⟩
        -- cell = cells[j]
        refine ⟨_, rfl, _, rfl, c, _, _, .int z, rfl, rfl, SqL.of hc, ?_, ?_⟩
        · rw [ej]
          exact atI_nat (by rw [List.getElem?_map, hz]; rfl)
        -- mixed, again
        walk_at "bx"
        have b1 : (0 : Int) ≤ z % 1000003 := Int.emod_nonneg _ (by decide)
        refine ⟨.inl ⟨?_, ?_⟩, ?_⟩
        · have := Int.emod_nonneg (m * 48271 + z % 1000003 * 69621 + (0 + (i : Int)) * 7919 + 11) (show (2147483647 : Int) ≠ 0 by decide)
          show -(2 ^ 64) < (m * 48271 + z % 1000003 * 69621 + (0 + (i : Int)) * 7919 + 11) % 2147483647
          omega
        · have := Int.emod_lt_of_pos (m * 48271 + z % 1000003 * 69621 + (0 + (i : Int)) * 7919 + 11) (show (0 : Int) < 2147483647 by decide)
          show (m * 48271 + z % 1000003 * 69621 + (0 + (i : Int)) * 7919 + 11) % 2147483647 < 2 ^ 64
          omega
        have c0 : 0 ≤ (m * 48271 + z % 1000003 * 69621 + (0 + (i : Int)) * 7919 + 11) % 2147483647 := Int.emod_nonneg _ (by decide)
        have c1 : (m * 48271 + z % 1000003 * 69621 + (0 + (i : Int)) * 7919 + 11) % 2147483647 < 2147483647 := Int.emod_lt_of_pos _ (by decide)
        walk_at "bx"
        refine ite2 (fun e => ?_) (fun e => ?_)
        · walk_at "bx"
          refine ⟨lenI (by omega), ?_⟩
          walk_at "bx"
          refine ⟨c, cs.map V.int, _, i % cs.length, rfl, rfl, by rw [upd_ne hco]; exact hc, by rw [ej]; exact ixN_at (by rw [List.length_map]; exact Nat.mod_lt _ hl), ?_⟩
          refine ⟨_, cs.set (i % cs.length) (z / 1000), fs ++ [z % 1000], _, _, _, _, rfl, c0, c1, fun b o' hb => ?_, by rw [upd_same, set_mapI], by simpa using hcs, by rw [upd_ne hco.symm, upd_same]; simp, by simp; omega⟩
          rw [upd_ne (fun z => by rw [z, hc0] at hb; cases hb), upd_ne (fun z => by rw [z, ho0] at hb; cases hb)]
          exact s3 _ _ hb
        · walk_at "bx"
          refine ⟨lenI (by omega), ?_⟩
          refine ⟨_, cs, fs ++ [_], _, _, _, _, rfl, c0, c1, fun b o' hb => ?_, by rw [upd_ne hco]; exact hc, hcs, by rw [upd_same, List.map_append]; rfl, by simp; omega⟩
          rw [upd_ne (fun z => by rw [z, ho0] at hb; cases hb)]
          exact s3 _ _ hb
      · rintro σ H3 ⟨m, cs, fs, v5, v6, v7, v8, rfl, m0, m1, s3, hc, hcs, hf, hfl⟩
        -- found.reverse()
        walk_at "bx"
        refine q _ o (fun b o' hb => ?_) ho0 ⟨fs.reverse, ?_⟩
        · rw [upd_ne (fun z => by rw [z, ho0] at hb; cases hb)]
          exact s3 _ _ hb
        · rw [upd_same, List.map_reverse]
theorem cal_ints (T : Txt K mg) : C8.Cal P w K mg base 2 "_law_integers" spInts [] := by
  have C_law_is_integer : C8.Cal P w K mg base 1 "_law_is_integer" spIsInt [] := cal_isint T
  obtain ⟨f, fd, F, hm, hb⟩ := T.h_law_integers
  refine ⟨f, fd, _, [], F.ok sc_law_integers (fun vs H Q E h => ?_) (fun cdv A outer s H vs Q E hr h => ?_), hm, F.kp, hb, .nil⟩
  · obtain ⟨a, xs, lo, hi, rfl, _⟩ := h
    rfl
  · obtain ⟨a, xs, lo, hi, rfl, ht, hx, q⟩ := h
    refine ⟨_, (pss_cons
      (ps_if (pt_not (pt_val (pe_callB (call_isiK' (K := K) rfl) (by rfl) T.z_isinstance (by decide +kernel) (pa_cons (pv 0) (pa_cons (pe_bltn (v := .ty "tuple") (by rfl) T.z_tuple (by decide +kernel) rfl) pa_nil))))) (pss_one
      (ps_ret pe_bl)) pss_nil)
      (pss_cons
      (ps_for PassesOwn.never rfl (pi_tup (pv 0)) (pg_name (i := 3) sc_law_integers.nd rfl (.inl rfl)) (pss_one
      (ps_if (PW.pt (pw_or (pt_not (pt_val (C8.pe_c C_law_is_integer hr (by decide) (by rfl) (pa_cons (pv 3) pa_nil)))) (pw_or (pt_cmpR op_lt (pv 3) (pv 1) (nomark _)) (pw_or1 (pt_cmpR op_ge (pv 3) (pv 2) (nomark _)))))) (pss_one
      (ps_ret pe_bl)) pss_nil)))
      (pss_one
      (ps_ret pe_bl)))), ?_⟩
    refine ⟨_, rfl, _, _, _, _, true, rfl, .ty "tuple", .base (.tup ht), kit_ty (by decide +kernel), true, rfl, ?_⟩
    refine ⟨_, rfl, a, rfl, ⟨_, .of ht⟩, for_tup (K := K) (a := a) (xs := xs.map V.int) (fun i σ H' => ∃ v : Option V, σ = [some (.ref a), some (.int lo), some (.int hi), v] ∧ H' = H) ⟨none, rfl, rfl⟩ (fun i σ H' _ ⟨_, _, e⟩ => by rw [e]; exact .of ht) ?_ ?_⟩
    · rintro i y σ H' hi ⟨v, rfl, rfl⟩
      obtain ⟨z, hz, rfl⟩ : ∃ z, xs[i]? = some z ∧ y = V.int z := by
        rw [List.getElem?_map] at hi
        cases e : xs[i]? with
        | none => rw [e] at hi; cases hi
        | some z => rw [e] at hi; exact ⟨z, rfl, (Option.some.inj hi).symm⟩
      obtain ⟨c1, c2⟩ := hx z (List.mem_of_getElem? hz)
      refine ⟨_, rfl, z, rfl, true, rfl, ?_⟩
      refine ⟨_, rfl, _, rfl, _, _, rfl, rfl, _, rfl, ite_lt (fun c => absurd c1 (by omega)) (fun _ => ?_)⟩
      refine ⟨_, rfl, _, rfl, _, _, rfl, rfl, _, rfl, ?_⟩
      refine ite2 (fun c => absurd (of_decide_eq_true c) (by omega)) (fun _ => ?_)
      exact ⟨_, rfl, rfl⟩
    · rintro σ H' ⟨v, rfl, rfl⟩
      exact q
theorem cal_lasso (T : Txt K mg) : C8.Cal P w K mg base 2 "_law_lasso" spLasso [] := by
  have C_law_take : C8.Cal P w K mg base 1 "_law_take" spTake [] := cal_take T
  obtain ⟨f, fd, F, hm, hb⟩ := T.h_law_lasso
  refine ⟨f, fd, _, [], F.ok sc_law_lasso (fun vs H Q E h => ?_) (fun cdv A outer s H vs Q E hr h => ?_), hm, F.kp, hb, .nil⟩
  · obtain ⟨d, n, m, rfl, _⟩ := h
    rfl
  · obtain ⟨d, n, m, rfl, hd, hn, hm0, hm1, q⟩ := h
    refine ⟨_, (pss_cons
      (ps_setLc (i := 3) (own := [("k", 5)]) (g := gName 5) (tt := tYes) rfl sc_law_lasso.nd rfl rfl (sw_true rfl rfl rfl (by decide +kernel)) (pi_range1 (by rfl) T.z_range (pa_cons (C8.pe_c C_law_take hr (by decide) (by rfl) (pa_cons (pv 0) (pa_cons (pe_op op_add (pv 2) pe_int) pa_nil))) pa_nil)) (blkOk_by (N := N_law_lasso) (sc := defScope s_law_lasso) (by decide +kernel)) (fun _ _ _ _ _ => (pg_name (i := 5) sc_law_lasso.nd rfl (Or.inl rfl))) (fun _ _ _ _ _ => pts_nil) (fun _ _ _ _ _ => (C8.pe_c C_law_take hr (by decide) (by rfl) (pa_cons (pv 0) (pa_cons (pv 1) pa_nil)))))
      (pss_cons
      (ps_setLc (i := 4) (own := [("k", 5)]) (g := gName 5) (tt := tYes) rfl sc_law_lasso.nd rfl rfl (sw_true rfl rfl rfl (by decide +kernel)) (pi_range1 (by rfl) T.z_range (pa_cons (pe_op op_add pe_int (C8.pe_c C_law_take hr (by decide) (by rfl) (pa_cons (pv 0) (pa_cons (pv 2) pa_nil)))) pa_nil)) (blkOk_by (N := N_law_lasso) (sc := defScope s_law_lasso) (by decide +kernel)) (fun _ _ _ _ _ => (pg_name (i := 5) sc_law_lasso.nd rfl (Or.inl rfl))) (fun _ _ _ _ _ => pts_nil) (fun _ _ _ _ _ => (C8.pe_c C_law_take hr (by decide) (by rfl) (pa_cons (pv 0) (pa_cons (pv 1) pa_nil)))))
      (pss_one
      (ps_ret (pe_tup (pa_cons (pe_callTy (call_tuple_ofK (K := K) rfl) (by rfl) T.z_tuple (by decide +kernel) (pa_cons (pv 3) pa_nil)) (pa_cons (pe_callTy (call_tuple_ofK (K := K) rfl) (by rfl) T.z_tuple (by decide +kernel) (pa_cons (pv 4) pa_nil)) pa_nil))))))), ?_⟩
    -- head
    refine ⟨_, rfl, _, rfl, _, _, rfl, rfl, d, _, rfl, hd, by omega, fun r ds r0 r1 => ?_⟩
    refine ⟨_, rfl, by omega, by omega, fun D hD => ?_⟩
    have nDd : D ≠ d := fun z => by rw [z, upd_same] at hD; cases hD
    refine lc_range (lo := 0) (n := r.toNat) (fun i H' => ∃ xs : List Int, Kp d H H' ∧ Drw H' d ∧ H' D = some (.lst (xs.map V.int)) ∧ xs.length = i ∧ ∀ x ∈ xs, 0 ≤ x ∧ x < n)
      ⟨[], Kp.own.trans (Kp.new hD), Drw.own.new hD, upd_same, rfl, by simp⟩ ?_ ?_
    · rintro i H1 hi ⟨xs, k1, d1, e1, el, hx⟩
      refine ⟨rfl, _, rfl, _, rfl, d, _, rfl, d1, hn, fun u us u0 u1 => ?_⟩
      refine ⟨xs.map V.int, by rw [upd_ne nDd]; exact e1, lenI (by omega), xs ++ [u], ?_, ?_, ?_, ?_, ?_⟩
      · intro b o nb hb
        have nbD : b ≠ D := fun z => by
          have h0 : (upd H d (.lst (ds.map V.int))) D = none := hD
          rw [upd_ne nDd] at h0
          rw [z, h0] at hb
          cases hb
        rw [upd_ne nbD, upd_ne nb]
        exact k1 _ _ nb hb
      · exact ⟨us, by rw [upd_ne nDd.symm, upd_same]⟩
      · rw [upd_same, List.map_append]
        rfl
      · simp [el]
      · intro x hx2
        rcases List.mem_append.mp hx2 with z | z
        · exact hx x z
        · rw [List.mem_singleton.mp z]
          exact ⟨u0, u1⟩
    · rintro H1 ⟨xs, k1, d1, e1, el, hx⟩
      have hD0 : H D = none := by
        have h0 : (upd H d (.lst (ds.map V.int))) D = none := hD
        rw [upd_ne nDd] at h0
        exact h0
      -- loop
      refine ⟨_, rfl, _, rfl, d, _, rfl, d1, by omega, fun r2 ds2 r20 r21 => ?_⟩
      refine ⟨_, _, rfl, rfl, _, rfl, by omega, by omega, fun D2 hD2 => ?_⟩
      have nD2d : D2 ≠ d := fun z => by rw [z, upd_same] at hD2; cases hD2
      have hD2' : H1 D2 = none := by rw [upd_ne nD2d] at hD2; exact hD2
      have nDD : D ≠ D2 := ne_of_none e1 hD2'
      have hD20 : H D2 = none := by
        cases e : H D2 with
        | none => rfl
        | some o => rw [k1 _ _ nD2d e] at hD2'; cases hD2'
      refine lc_range (lo := 0) (n := (1 + r2).toNat) (fun i H' => ∃ ys : List Int, Kp d H H' ∧ Drw H' d ∧ H' D = some (.lst (xs.map V.int)) ∧ H' D2 = some (.lst (ys.map V.int)) ∧ ys.length = i ∧ ∀ x ∈ ys, 0 ≤ x ∧ x < n)
        ⟨[], k1.trans (Kp.own.trans (Kp.new hD2)), Drw.own.new hD2, by rw [upd_ne nDD, upd_ne nDd]; exact e1, upd_same, rfl, by simp⟩ ?_ ?_
      · rintro i H2 hi ⟨ys, k2, d2, e2, e3, el2, hy⟩
        refine ⟨rfl, _, rfl, _, rfl, d, _, rfl, d2, hn, fun u us u0 u1 => ?_⟩
        refine ⟨ys.map V.int, by rw [upd_ne nD2d]; exact e3, lenI (by omega), ys ++ [u], ?_, ?_, ?_, ?_, ?_, ?_⟩
        · intro b o nb hb
          rw [upd_ne (fun z => by rw [z, hD20] at hb; cases hb), upd_ne nb]
          exact k2 _ _ nb hb
        · exact ⟨us, by rw [upd_ne nD2d.symm, upd_same]⟩
        · rw [upd_ne nDD, upd_ne nDd]
          exact e2
        · rw [upd_same, List.map_append]
          rfl
        · simp [el2]
        · intro x hx2
          rcases List.mem_append.mp hx2 with z | z
          · exact hy x z
          · rw [List.mem_singleton.mp z]
            exact ⟨u0, u1⟩
      · rintro H2 ⟨ys, k2, d2, e2, e3, el2, hy⟩
        -- return (tuple(head), tuple(loop))
        refine ⟨_, rfl, D, _, rfl, .inl ⟨.of e2, fun a ha => ?_⟩⟩
        have e3' : (upd H2 a (.tup (xs.map V.int))) D2 = some (.lst (ys.map V.int)) := same_new ha _ _ e3
        refine ⟨_, rfl, D2, _, rfl, .inl ⟨.of e3', fun b hb => ?_⟩⟩
        refine ⟨by show 2 ≤ sizeLine; decide, fun p hp => ?_⟩
        have nab : a ≠ b := fun z => by rw [← z, upd_same] at hb; cases hb
        have nap : a ≠ p := fun z => by rw [← z, upd_ne nab, upd_same] at hp; cases hp
        have nbp : b ≠ p := fun z => by rw [← z, upd_same] at hp; cases hp
        refine q _ p xs ys (k2.trans ((Kp.new ha).trans ((Kp.new hb).trans (Kp.new hp)))) (((d2.new ha).new hb).new hp) ⟨a, b, upd_same, by rw [upd_ne nap, upd_ne nab, upd_same], by rw [upd_ne nbp, upd_same]⟩ (by omega) (fun z => ?_) (by omega) hx hy
        rw [z] at el2
        have : (0 : Nat) = (1 + r2).toNat := el2
        omega
theorem asc_snoc {i : Nat} {xs : List Int} (h : Asc (i : Int) xs) : Asc ((i + 1 : Nat) : Int) (xs ++ [(0 : Int) + (i : Int)]) := by
  refine ⟨List.pairwise_append.mpr ⟨h.1, by simp, fun x hx y hy => ?_⟩, fun x hx => ?_⟩
  · rw [List.mem_singleton.mp hy]
    have := (h.2 x hx).2
    omega
  · rcases List.mem_append.mp hx with z | z
    · have := h.2 x z
      omega
    · rw [List.mem_singleton.mp z]
      omega
theorem asc_mono {n m : Int} {xs : List Int} (h : Asc n xs) (k : n ≤ m) : Asc m xs := ⟨h.1, fun x hx => by have := h.2 x hx; omega⟩
theorem asc_nil (n : Int) : Asc n [] := ⟨by simp, by simp⟩
def spAscd : Sp := fun vs H Q _ => ∃ (d : Addr) (n sh : Int), vs = [.ref d, .int n, .int sh] ∧ Drw H d ∧ 0 ≤ n ∧ n ≤ 1000 ∧
  ∀ (H' : Hp) (t : Addr) (xs : List Int), Kp d H H' → Drw H' d → H t = none → H' t = some (.lst (xs.map V.int)) → Asc n xs → (xs.length : Int) ≤ n → Q (.ref t) H'
theorem cal_ascd (T : Txt K mg) : C8.Cal P w K mg base 2 "_law_ascending" spAscd [] := by
  have C_law_take : C8.Cal P w K mg base 1 "_law_take" spTake [] := cal_take T
  obtain ⟨f, fd, F, hm, hb⟩ := T.h_law_ascending
  refine ⟨f, fd, _, [], F.ok sc_law_ascending (fun vs H Q E h => ?_) (fun cdv A outer s H vs Q E hr h => ?_), hm, F.kp, hb, .nil⟩
  · obtain ⟨d, n, sh, rfl, _⟩ := h
    rfl
  · obtain ⟨d, n, sh, rfl, hd, n0, n1, q⟩ := h
    refine ⟨_, (pss_one
      (ps_ret (pe_lc (own := [("k", 3)]) (g := gName 3) rfl sc_law_ascending.nd (pi_range1 (by rfl) T.z_range (pa_cons (pv 1) pa_nil)) (blkOk_by (N := N_law_ascending) (sc := defScope s_law_ascending) (by decide +kernel)) (fun _ _ _ _ _ => (pg_name (i := 3) sc_law_ascending.nd rfl (Or.inl rfl))) (fun _ _ _ _ _ => (pts_one (pt_cmpR op_lt (C8.pe_c C_law_take hr (by decide) (by rfl) (pa_cons (pv 0) (pa_cons pe_int pa_nil))) (pv 2) (nomark _)))) (fun _ _ _ _ _ => (pv 3))))), ?_⟩
    refine ⟨_, rfl, _, rfl, by omega, by omega, fun D hD => ?_⟩
    have nDd : D ≠ d := fun z => by obtain ⟨o, y⟩ := hd; rw [← z, hD] at y; cases y
    refine lc_range (lo := 0) (n := n.toNat) (fun i H' => ∃ xs : List Int, Kp d H H' ∧ Drw H' d ∧ H' D = some (.lst (xs.map V.int)) ∧ Asc (i : Nat) xs ∧ xs.length ≤ i)
      ⟨[], Kp.new hD, hd.new hD, upd_same, asc_nil _, Nat.le_refl _⟩ ?_ ?_
    · rintro i H1 hi ⟨xs, k1, d1, e1, hA, xl⟩
      refine ⟨rfl, _, rfl, d, 10, rfl, d1, by decide, fun u us u0 u1 => ?_⟩
      have e2 : (upd H1 d (.lst (us.map V.int))) D = some (.lst (xs.map V.int)) := by rw [upd_ne nDd]; exact e1
      have k2 : Kp d H (upd H1 d (.lst (us.map V.int))) := k1.trans Kp.own
      have d2 : Drw (upd H1 d (.lst (us.map V.int))) d := Drw.own
      generalize upd H1 d (.lst (us.map V.int)) = H2 at *
      refine ⟨_, rfl, _, _, rfl, rfl, _, rfl, ite2 (fun c => ?_) (fun c => ⟨xs, k2, d2, e2, asc_mono hA (by omega), by omega⟩)⟩
      refine ⟨_, rfl, _, e2, lenI (by omega), xs ++ [(0 : Int) + (i : Int)], ?_, ?_, ?_, asc_snoc hA, by rw [List.length_append]; show xs.length + 1 ≤ i + 1; omega⟩
      · intro b o nb hb
        rw [upd_ne (ne_of_none hb hD)]
        exact k2 _ _ nb hb
      · obtain ⟨o, y⟩ := d2
        exact ⟨o, by rw [upd_ne nDd.symm]; exact y⟩
      · rw [upd_same, List.map_append]
        rfl
    · rintro H1 ⟨xs, k1, d1, e1, hA, xl⟩
      exact q H1 D xs k1 d1 hD e1 (asc_mono hA (by omega)) (by omega)
def spStates : Sp := fun vs H Q _ => ∃ (a : Addr) (xs : List Int) (n : Int), vs = [.ref a, .int n] ∧ TupI H a xs ∧ Asc n xs ∧ xs.length ≤ 100000 ∧ Q (.bl true) H
theorem cal_states (T : Txt K mg) : C8.Cal P w K mg base 3 "_law_states" spStates [] := by
  have C_law_integers : C8.Cal P w K mg base 2 "_law_integers" spInts [] := cal_ints T
  obtain ⟨f, fd, F, hm, hb⟩ := T.h_law_states
  refine ⟨f, fd, _, [], F.ok sc_law_states (fun vs H Q E h => ?_) (fun cdv A outer s H vs Q E hr h => ?_), hm, F.kp, hb, .nil⟩
  · obtain ⟨a, xs, n, rfl, _⟩ := h
    rfl
  · obtain ⟨a, xs, n, rfl, ht, hA, hl, q⟩ := h
    refine ⟨_, (pss_cons
      (ps_if (pt_not (pt_val (C8.pe_c C_law_integers hr (by decide) (by rfl) (pa_cons (pv 0) (pa_cons pe_int (pa_cons (pv 1) pa_nil)))))) (pss_one
      (ps_ret pe_bl)) pss_nil)
      (pss_cons
      (ps_for PassesOwn.never rfl (pi_range2 (by rfl) T.z_range (pa_cons pe_int (pa_cons (pe_callB (call_lenK (K := K) rfl) (by rfl) T.z_len PySem.boot_len (pa_cons (pv 0) pa_nil)) pa_nil))) (pg_name (i := 2) sc_law_states.nd rfl (.inl rfl)) (pss_one
      (ps_if (pt_cmpR op_ge (pe_ix (ix_tupK (K := K) rfl) (pv 0) (pe_op op_sub (pv 2) pe_int) (fun _ _ => rfl)) (pe_ix (ix_tupK (K := K) rfl) (pv 0) (pv 2) (fun _ _ => rfl)) (nomark _)) (pss_one
      (ps_ret pe_bl)) pss_nil)))
      (pss_one
      (ps_ret pe_bl)))), ?_⟩
    refine ⟨_, rfl, _, rfl, a, xs, 0, n, rfl, ht, hA.2, true, rfl, ?_⟩
    refine ⟨_, rfl, a, _, rfl, .inr (.of ht), _, _, rfl, (by rw [List.length_map]; omega), for_range (lo := 1) (n := ((((xs.map V.int).length : Nat) : Int) - 1).toNat) (fun i σ H' => ∃ v : Option V, σ = [some (.ref a), some (.int n), v] ∧ H' = H) ⟨none, rfl, rfl⟩ ?_ ?_⟩
    · rintro i σ H' hi ⟨v, rfl, rfl⟩
      rw [List.length_map] at hi
      have h1 : i < xs.length := by omega
      have h2 : i + 1 < xs.length := by omega
      have lt : lw xs i < lw xs (i + 1) := by
        have := (List.pairwise_iff_getElem.mp hA.1) i (i + 1) h1 h2 (Nat.lt_succ_self i)
        unfold lw
        rw [List.getD_eq_getElem?_getD, List.getElem?_eq_getElem h1, List.getD_eq_getElem?_getD, List.getElem?_eq_getElem h2]
        exact this
      have g1 : atI (xs.map V.int) (1 + (i : Int) - 1) = some (.int (lw xs i)) := by
        rw [show (1 : Int) + (i : Int) - 1 = ((i : Nat) : Int) by omega]
        exact atI_nat (at_map h1)
      have g2 : atI (xs.map V.int) (1 + (i : Int)) = some (.int (lw xs (i + 1))) := by
        rw [show (1 : Int) + (i : Int) = ((i + 1 : Nat) : Int) by omega]
        exact atI_nat (at_map h2)
      refine ⟨_, rfl, _, rfl, _, _, rfl, rfl, a, _, _, _, rfl, rfl, .of ht, g1, _, rfl, _, rfl, a, _, _, _, rfl, rfl, .of ht, g2, _, _, rfl, rfl, _, rfl, ite2 (fun c => ?_) (fun _ => ⟨_, rfl, rfl⟩)⟩
      have c := of_decide_eq_true c
      omega
    · rintro σ H' ⟨v, rfl, rfl⟩
      exact q
def spIsAut (C : Addr) : Sp := fun vs H Q _ => ∃ (x : Addr) (L : Int) (ini acc : List Int) (c : List (List (List Int))), vs = [.ref x, .int L] ∧ AutAt C H x L ini acc c ∧ VldB L ini acc c ∧ ini.length ≤ 1000 ∧ acc.length ≤ 1000 ∧ (∀ r ∈ c, ∀ e ∈ r, e.length ≤ 1000) ∧ Q (.bl true) H
theorem cal_isaut {C : Addr} (T : Txt K mg) (PC : AutC K C) : C8.Cal P w K mg base 4 "_law_is_automaton" (spIsAut C) [] := by
  have C_law_is_integer : C8.Cal P w K mg base 1 "_law_is_integer" spIsInt [] := cal_isint T
  have C_law_states : C8.Cal P w K mg base 3 "_law_states" spStates [] := cal_states T
  obtain ⟨f, fd, F, hm, hb⟩ := T.h_law_is_automaton
  refine ⟨f, fd, _, [], F.ok sc_law_is_automaton (fun vs H Q E h => ?_) (fun cdv A outer s H vs Q E hr h => ?_), hm, F.kp, hb, .nil⟩
  · obtain ⟨x, L, ini, acc, c, rfl, _⟩ := h
    rfl
  · obtain ⟨x, L, ini, acc, cu, rfl, hP, hv, m1, m2, m3, q⟩ := h
    refine ⟨_, (pss_cons
      (ps_if (PW.pt (pw_or (pt_not (pt_val (C8.pe_c C_law_is_integer hr (by decide) (by rfl) (pa_cons (pe_fld (pv 0) rfl) pa_nil)))) (pw_or1 (pt_cmpR op_ne (pe_fld (pv 0) rfl) (pv 1) (nomark _))))) (pss_one
      (ps_ret pe_bl)) pss_nil)
      (pss_cons
      (ps_if (PW.pt (pw_or (pt_not (pt_val (pe_callB (call_isiK' (K := K) rfl) (by rfl) T.z_isinstance (by decide +kernel) (pa_cons (pe_fld (pv 0) rfl) (pa_cons (pe_bltn (v := .ty "tuple") (by rfl) T.z_tuple (by decide +kernel) rfl) pa_nil))))) (pw_or1 (pt_cmpR op_eq (pe_callB (call_lenK (K := K) rfl) (by rfl) T.z_len PySem.boot_len (pa_cons (pe_fld (pv 0) rfl) pa_nil)) pe_int (nomark _))))) (pss_one
      (ps_ret pe_bl)) pss_nil)
      (pss_cons
      (ps_set (i := 2) sc_law_is_automaton.nd rfl (Or.inl rfl) (pe_callB (call_lenK (K := K) rfl) (by rfl) T.z_len PySem.boot_len (pa_cons (pe_fld (pv 0) rfl) pa_nil)))
      (pss_cons
      (ps_if (PW.pt (pw_or (pt_not (pt_val (C8.pe_c C_law_states hr (by decide) (by rfl) (pa_cons (pe_fld (pv 0) rfl) (pa_cons (pv 2) pa_nil))))) (pw_or1 (pt_not (pt_val (C8.pe_c C_law_states hr (by decide) (by rfl) (pa_cons (pe_fld (pv 0) rfl) (pa_cons (pv 2) pa_nil)))))))) (pss_one
      (ps_ret pe_bl)) pss_nil)
      (pss_cons
      (ps_for PassesOwn.never rfl (pi_tup (pe_fld (pv 0) rfl)) (pg_name (i := 3) sc_law_is_automaton.nd rfl (.inl rfl)) (pss_cons
      (ps_if (PW.pt (pw_or (pt_not (pt_val (pe_callB (call_isiK' (K := K) rfl) (by rfl) T.z_isinstance (by decide +kernel) (pa_cons (pv 3) (pa_cons (pe_bltn (v := .ty "tuple") (by rfl) T.z_tuple (by decide +kernel) rfl) pa_nil))))) (pw_or1 (pt_cmpR op_ne (pe_callB (call_lenK (K := K) rfl) (by rfl) T.z_len PySem.boot_len (pa_cons (pv 3) pa_nil)) (pv 1) (nomark _))))) (pss_one
      (ps_ret pe_bl)) pss_nil)
      (pss_one
      (ps_for PassesOwn.never rfl (pi_tup (pv 3)) (pg_name (i := 4) sc_law_is_automaton.nd rfl (.inl rfl)) (pss_one
      (ps_if (pt_not (pt_val (C8.pe_c C_law_states hr (by decide) (by rfl) (pa_cons (pv 4) (pa_cons (pv 2) pa_nil))))) (pss_one
      (ps_ret pe_bl)) pss_nil))))))
      (pss_one
      (ps_ret pe_bl))))))), ?_⟩
    obtain ⟨dx, it, at_, rt, as, bss, e1, e2, e3, e4, e5⟩ := id hP
    have hl2 : (as.map V.ref).length = cu.length := by rw [List.length_map, (cub_len e5).1]
    have hn : 0 < cu.length := List.length_pos_iff.mpr hv.2.1
    obtain ⟨v1, v2, v3, v4, v5⟩ := id hv
    refine ⟨_, rfl, x, C, dx, _, _, rfl, e1, PC.cl, PC.nL, bf_L _ _ _ _, L, rfl, true, rfl, ?_⟩
    refine ⟨_, rfl, x, C, dx, _, _, rfl, e1, PC.cl, PC.nL, bf_L _ _ _ _, _, rfl, rfl, _, rfl, ite_ne (fun c => absurd rfl c) (fun _ => ?_)⟩
    refine ⟨_, rfl, x, C, dx, _, _, rfl, e1, PC.cl, PC.nR, bf_r _ _ _ _, _, _, _, _, true, rfl, .ty "tuple", .base (.tup e4), kit_ty (by decide +kernel), true, rfl, ?_⟩
    refine ⟨_, rfl, x, C, dx, _, _, rfl, e1, PC.cl, PC.nR, bf_r _ _ _ _, rt, _, rfl, .inr (.of e4), rfl, _, rfl, ite_eq (fun c => absurd c (by rw [hl2]; omega)) (fun _ => ?_)⟩
    refine ⟨_, rfl, x, C, dx, _, _, rfl, e1, PC.cl, PC.nR, bf_r _ _ _ _, rt, _, rfl, .inr (.of e4), ?_⟩
    rw [hl2]
    refine ⟨_, rfl, x, C, dx, _, _, rfl, e1, PC.cl, PC.nI, bf_i _ _ _ _, _, rfl, it, ini, _, rfl, e2, v3, by omega, true, rfl, ?_⟩
    refine ⟨_, rfl, x, C, dx, _, _, rfl, e1, PC.cl, PC.nA, bf_a _ _ _ _, _, rfl, at_, acc, _, rfl, e3, v4, by omega, true, rfl, ?_⟩
    refine ⟨_, rfl, x, C, dx, _, _, rfl, e1, PC.cl, PC.nR, bf_r _ _ _ _, rt, rfl, ⟨_, .of e4⟩, for_tup (K := K) (a := rt) (xs := as.map V.ref) (fun i σ H2 => ∃ v u : Option V, σ = [some (.ref x), some (.int L), some (.int cu.length), v, u] ∧ H2 = H) ⟨none, none, rfl, rfl⟩ (fun i σ H2 _ ⟨_, _, _, e⟩ => by rw [e]; exact .of e4) ?_ ?_⟩
    · rintro i y σ H2 hi ⟨v, u, rfl, rfl⟩
      obtain ⟨a, ha, rfl⟩ := refs_get hi
      obtain ⟨bs, row, hbs, hrow, hra, hR⟩ := cub_get e5 ha
      have hmem := List.mem_of_getElem? hrow
      have hbl : (bs.map V.ref).length = row.length := by rw [List.length_map, hR.len]
      obtain ⟨c1, c2⟩ := v5 row hmem
      refine ⟨_, rfl, _, _, _, _, true, rfl, .ty "tuple", .base (.tup hra), kit_ty (by decide +kernel), true, rfl, ?_⟩
      refine ⟨_, rfl, a, _, rfl, .inr (.of hra), _, rfl, rfl, _, rfl, ite_ne (fun c => absurd (by rw [hbl]; exact c1) c) (fun _ => ?_)⟩
      refine ⟨_, rfl, a, rfl, ⟨_, .of hra⟩, for_tup (K := K) (a := a) (xs := bs.map V.ref) (fun i σ H3 => ∃ u : Option V, σ = [some (.ref x), some (.int L), some (.int cu.length), some (.ref a), u] ∧ H3 = H2) ⟨u, rfl, rfl⟩ (fun i σ H3 _ ⟨_, _, e⟩ => by rw [e]; exact .of hra) ?_ ?_⟩
      · rintro j y σ H3 hj ⟨u, rfl, rfl⟩
        obtain ⟨b, hb, rfl⟩ := refs_get hj
        obtain ⟨e, he, hbe⟩ := hR.get hb
        exact ⟨_, rfl, _, rfl, b, e, _, rfl, hbe, c2 e (List.mem_of_getElem? he), by have := m3 row hmem e (List.mem_of_getElem? he); omega, true, rfl, ⟨_, rfl, rfl⟩⟩
      · rintro σ H3 ⟨u, rfl, rfl⟩
        exact ⟨_, _, rfl, rfl⟩
    · rintro σ H2 ⟨v, u, rfl, rfl⟩
      exact q
theorem lc_same {H H' : Hp} {r : Addr} {as : List Addr} {bss : List (List Addr)} {c : List (List (List Int))} (s : Same H H') (h : LC H r as bss c) : LC H' r as bss c := ⟨s _ _ h.1, cub_same s h.2⟩
theorem RowsA.drop {H : Hp} {D : Addr} {o : HO} {as : List Addr} {rs : List (List Int)} (n : D ∉ as) (h : RowsA .lst H as rs) : RowsA .lst (upd H D o) as rs := h.keep fun b _ hb e => by rw [upd_ne (fun z => n (by rw [← z]; exact hb))]; exact e
def Cpy (H H' : Hp) (r' : Addr) (as' : List Addr) (rows : List (List Int)) : Prop := Same H H' ∧ LL H' r' as' rows ∧ (∀ b ∈ as', H b = none) ∧ H r' = none ∧ r' ∉ as'
/-- one more row of a copy -/
theorem cpy_step {H H' : Hp} {D t : Addr} {bs : List Addr} {rs : List (List Int)} {row : List Int} (h : Cpy H H' D bs rs) (ht : H' t = none) : Cpy H (upd (upd H' t (.lst (row.map V.int))) D (.lst ((bs ++ [t]).map V.ref))) D (bs ++ [t]) (rs ++ [row]) := by
  obtain ⟨s1, ⟨e1, R1⟩, n1, d1, m1⟩ := h
  have nt : D ≠ t := fun z => by rw [z, ht] at e1; cases e1
  refine ⟨fun b o hb => ?_, ⟨upd_same, ?_⟩, fun b hb => ?_, d1, fun z => ?_⟩
  · rw [upd_ne (ne_of_none hb d1), upd_ne (ne_of_none (s1 _ _ hb) ht)]
    exact s1 _ _ hb
  · refine RowsA.snoc ?_ (My.RowsA.drop m1 (R1.same (same_new ht)))
    rw [upd_ne nt.symm, upd_same]
  · rcases List.mem_append.mp hb with z | z
    · exact n1 b z
    · rw [List.mem_singleton.mp z]
      exact s1.free ht
  · rcases List.mem_append.mp z with y | y
    · exact m1 y
    · exact nt (List.mem_singleton.mp y)
theorem cpy_zero {H : Hp} {D : Addr} (hD : H D = none) : Cpy H (upd H D (.lst [])) D [] [] := ⟨same_new hD, ⟨upd_same, True.intro⟩, (by simp), hD, by simp⟩
theorem hp_kp {d p : Addr} {H H' : Hp} {o : HO} (k : Kp d H H') (n : d ≠ p) (h : H p = some o) : H' p = some o := k _ _ n.symm h
def CpyC (H H' : Hp) (D : Addr) (as : List Addr) (bss : List (List Addr)) (c : List (List (List Int))) : Prop := Same H H' ∧ LC H' D as bss c ∧ (∀ b ∈ as, H b = none) ∧ H D = none ∧ ∀ b, (b ∈ as ∨ ∃ bs ∈ bss, b ∈ bs) → b ≠ D
theorem cpyc_zero {H : Hp} {D : Addr} (hD : H D = none) : CpyC H (upd H D (.lst [])) D [] [] [] := ⟨same_new hD, ⟨upd_same, True.intro⟩, by simp, hD, fun b hb => by simp at hb⟩
theorem cpyc_step {H H4 H5 : Hp} {D E1 : Addr} {as bs : List Addr} {bss : List (List Addr)} {c : List (List (List Int))} {row : List (List Int)} (h : CpyC H H4 D as bss c) (g : Cpy H4 H5 E1 bs row) :
    H5 D = some (.lst (as.map V.ref)) ∧ CpyC H (upd H5 D (.lst ((as ++ [E1]).map V.ref))) D (as ++ [E1]) (bss ++ [bs]) (c ++ [row]) := by
  obtain ⟨s1, ⟨e1, C1⟩, n1, d1, m1⟩ := h
  obtain ⟨s2, ⟨e2, R2⟩, n2, d2, m2⟩ := g
  have nDE : E1 ≠ D := fun z => by rw [← z, d2] at e1; cases e1
  have nbD : ∀ b ∈ bs, b ≠ D := fun b hb z => by have := n2 b hb; rw [z, e1] at this; cases this
  refine ⟨s2 _ _ e1, fun b o hb => ?_, ⟨upd_same, ?_⟩, fun b hb => ?_, d1, fun b hb => ?_⟩
  · rw [upd_ne (ne_of_none hb d1)]
    exact s2 _ _ (s1 _ _ hb)
  · refine cub_snoc ?_ (R2.keep fun b o hb h => by rw [upd_ne (nbD b hb)]; exact h) (cub_keep (fun b o hb h => by rw [upd_ne (m1 b hb)]; exact h) (cub_same s2 C1))
    rw [upd_ne nDE]
    exact e2
  · rcases List.mem_append.mp hb with z | z
    · exact n1 b z
    · rw [List.mem_singleton.mp z]
      exact s1.free d2
  · rcases hb with z | ⟨q, z, y⟩
    · rcases List.mem_append.mp z with u | u
      · exact m1 b (.inl u)
      · rw [List.mem_singleton.mp u]
        exact nDE
    · rcases List.mem_append.mp z with u | u
      · exact m1 b (.inr ⟨q, u, y⟩)
      · rw [List.mem_singleton.mp u] at y
        exact nbD b y
def spCopy : Sp := fun vs H Q _ => ∃ (r : Addr) (as : List Addr) (bss : List (List Addr)) (c : List (List (List Int))), vs = [.ref r] ∧ LC H r as bss c ∧ c.length ≤ 1000 ∧ (∀ q ∈ c, q.length ≤ 1000) ∧ ∀ (H' : Hp) (r' : Addr) (as' : List Addr) (bss' : List (List Addr)), CpyC H H' r' as' bss' c → Q (.ref r') H'
theorem cal_copy (T : Txt K mg) : C8.Cal P w K mg base 1 "_law_copy" spCopy [] := by
  obtain ⟨f, fd, F, hm, hb⟩ := T.h_law_copy
  refine ⟨f, fd, _, [], F.ok sc_law_copy (fun vs H Q E h => ?_) (fun cdv A outer s H vs Q E hr h => ?_), hm, F.kp, hb, .nil⟩
  · obtain ⟨r, as, bss, c, rfl, _⟩ := h
    rfl
  · obtain ⟨r, as, bss, cu, rfl, hL, b1, b2, q⟩ := h
    refine ⟨_, (pss_one
      (ps_ret (pe_lc (own := [("row", 1)]) (g := gName 1) (tt := tYes) rfl sc_law_copy.nd (pi_list (pv 0)) (blkOk_by (N := N_law_copy) (sc := defScope s_law_copy) (by decide +kernel)) (fun _ _ _ _ _ => (pg_name (i := 1) sc_law_copy.nd rfl (Or.inl rfl))) (fun _ _ _ _ _ => pts_nil) (fun _ _ _ _ _ => (pe_lc (own := [("entry", 2)]) (g := gName 2) (tt := tYes) rfl sc_law_copy.nd (pi_listK (K := K) rfl (pv 1)) (blkOk_by (N := N_law_copy) (sc := stS (defScope s_law_copy) 0 (defBody s_law_copy)) (by decide +kernel)) (fun _ _ _ _ _ => (pg_name (i := 2) sc_law_copy.nd rfl (Or.inl rfl))) (fun _ _ _ _ _ => pts_nil) (fun _ _ _ _ _ => (pe_callTy (call_list_ofK (K := K) rfl) (by rfl) T.z_list (by decide +kernel) (pa_cons (pv 2) pa_nil)))))))), ?_⟩
    have hl2 : (as.map V.ref).length = cu.length := by rw [List.length_map, (cub_len hL.2).1]
    refine ⟨_, rfl, r, rfl, ⟨_, .of hL.1⟩, fun D hD => lc_list (K := K) (a := r) (xs := as.map V.ref) (fun i H4 => ∃ (as2 : List Addr) (bss2 : List (List Addr)), CpyC H H4 D as2 bss2 (cu.take i))
      ⟨[], [], cpyc_zero hD⟩ (fun i H' _ ⟨_, _, z⟩ => .of (z.1 _ _ hL.1)) ?_ ?_⟩
    · rintro i v H4 hi4 ⟨as2, bss2, C4⟩
      obtain ⟨a, haa, rfl⟩ := refs_get hi4
      obtain ⟨bs, row, hbs, hrow, hra, hR⟩ := cub_get hL.2 haa
      have hil : i < cu.length := (List.getElem?_eq_some_iff.mp hrow).1
      have hbl : (bs.map V.ref).length = row.length := by rw [List.length_map, hR.len]
      have hrl := b2 row (List.mem_of_getElem? hrow)
      refine ⟨rfl, _, rfl, a, rfl, ⟨_, .of (C4.1 _ _ hra)⟩, fun E1 hE => lc_list (K := K) (a := a) (xs := bs.map V.ref) (fun j H5 => ∃ cs : List Addr, Cpy H4 H5 E1 cs (row.take j))
        ⟨[], cpy_zero hE⟩ (fun i H' _ ⟨_, z⟩ => .of (z.1 _ _ (C4.1 _ _ hra))) ?_ ?_⟩
      · rintro j v H5 hj ⟨cs, c5⟩
        obtain ⟨b, hb, rfl⟩ := refs_get hj
        obtain ⟨e, he, hbe⟩ := hR.get hb
        have hjl : j < row.length := (List.getElem?_eq_some_iff.mp he).1
        have cl := c5.2.1.2.len
        rw [List.length_take] at cl
        have nE : ∀ t, H5 t = none → E1 ≠ t := fun t ht z => by
          have := c5.2.1.1
          rw [z, ht] at this
          cases this
        refine ⟨rfl, _, rfl, b, _, rfl, .inl (.of (c5.1 _ _ (C4.1 _ _ hbe))), fun t ht => ⟨_, by rw [upd_ne (nE t ht)]; exact c5.2.1.1, by rw [List.length_map]; exact Nat.lt_of_le_of_lt (show cs.length ≤ 1000 by omega) (by decide), cs ++ [t], ?_⟩⟩
        rw [take_get he]
        have := cpy_step (row := e) c5 ht
        rw [List.map_append] at this
        exact this
      · rintro H5 ⟨cs, c5⟩
        rw [hbl, List.take_length] at c5
        have cl := cub_len C4.2.1.2
        rw [List.length_take] at cl
        obtain ⟨g1, g2⟩ := cpyc_step C4 c5
        rw [List.map_append] at g2
        rw [take_get hrow]
        exact ⟨_, g1, by rw [List.length_map]; exact Nat.lt_of_le_of_lt (show as2.length ≤ 1000 by omega) (by decide), as2 ++ [E1], bss2 ++ [cs], g2⟩
    · rintro H4 ⟨as2, bss2, C4⟩
      rw [hl2, List.take_length] at C4
      exact q _ _ _ _ C4
/-! what the law draws -/
def GdB (d ii aa r : Addr) (as : List Addr) (bss : List (List Addr)) : Prop := d ≠ ii ∧ d ≠ aa ∧ d ≠ r ∧ (∀ b, (b ∈ as ∨ ∃ bs ∈ bss, b ∈ bs) → b ≠ d) ∧ as.Nodup ∧ r ∉ as ∧ ∀ bs ∈ bss, r ∉ bs
def spAut : Sp := fun vs H Q _ => ∃ (d : Addr) (L : Int) (m : Nat), vs = [.ref d, .int L, .int m] ∧ Drw H d ∧ 1 ≤ L ∧ L ≤ 100 ∧ 1 ≤ m ∧ m ≤ 100 ∧
  ∀ (H' : Hp) (t ii aa r : Addr) (as : List Addr) (bss : List (List Addr)) (ini acc : List Int) (c : List (List (List Int))), Kp d H H' → Drw H' d → H' t = some (.tup [.ref ii, .ref aa, .ref r]) → H' ii = some (.lst (ini.map V.int)) → H' aa = some (.lst (acc.map V.int)) → LC H' r as bss c → GdB d ii aa r as bss → VldB L ini acc c → c.length ≤ m →
    ini.length ≤ 100 → acc.length ≤ 100 → (∀ q ∈ c, ∀ e ∈ q, e.length ≤ 100) → Q (.ref t) H'
theorem cal_aut (T : Txt K mg) : C8.Cal P w K mg base 3 "_law_automaton" spAut [] := by
  have C_law_take : C8.Cal P w K mg base 1 "_law_take" spTake [] := cal_take T
  have C_law_ascending : C8.Cal P w K mg base 2 "_law_ascending" spAscd [] := cal_ascd T
  obtain ⟨f, fd, F, hm, hb⟩ := T.h_law_automaton
  refine ⟨f, fd, _, [], F.ok sc_law_automaton (fun vs H Q E h => ?_) (fun cdv A outer s H vs Q E hr h => ?_), hm, F.kp, hb, .nil⟩
  · obtain ⟨d, L, m, rfl, _⟩ := h
    rfl
  · obtain ⟨d, L, m, rfl, hd, L1, L2, m1, m2, q⟩ := h
    refine ⟨_, (pss_cons
      (ps_set (i := 3) sc_law_automaton.nd rfl (Or.inr rfl) (pe_op op_add pe_int (C8.pe_c C_law_take hr (by decide) (by rfl) (pa_cons (pv 0) (pa_cons (pv 2) pa_nil)))))
      (pss_cons
      (ps_set (i := 4) sc_law_automaton.nd rfl (Or.inr rfl) (pe_op op_add pe_int (C8.pe_c C_law_take hr (by decide) (by rfl) (pa_cons (pv 0) (pa_cons pe_int pa_nil)))))
      (pss_cons
      (ps_set (i := 5) sc_law_automaton.nd rfl (Or.inl rfl) (C8.pe_c C_law_ascending hr (by decide) (by rfl) (pa_cons (pv 0) (pa_cons (pv 3) (pa_cons pe_int pa_nil)))))
      (pss_cons
      (ps_set (i := 6) sc_law_automaton.nd rfl (Or.inl rfl) (C8.pe_c C_law_ascending hr (by decide) (by rfl) (pa_cons (pv 0) (pa_cons (pv 3) (pa_cons pe_int pa_nil)))))
      (C8.pss_cut
      (ps_if (PW.pt (pw_and (pt_cmpR op_eq (pe_callB (call_lenK (K := K) rfl) (by rfl) T.z_len PySem.boot_len (pa_cons (pv 5) pa_nil)) pe_int (nomark _)) (pw_and1 (pt_cmpR op_gt (C8.pe_c C_law_take hr (by decide) (by rfl) (pa_cons (pv 0) (pa_cons pe_int pa_nil))) pe_int (nomark _))))) (pss_one
      (ps_set (i := 5) sc_law_automaton.nd rfl (Or.inl rfl) (pe_lst (pa_cons pe_int pa_nil)))) pss_nil)
      (pss_cons
      (ps_set (i := 7) sc_law_automaton.nd rfl (Or.inl rfl) (pe_lst pa_nil))
      (pss_cons
      (ps_for PassesOwn.never rfl (pi_range1 (by rfl) T.z_range (pa_cons (pv 3) pa_nil)) (pg_name (i := 8) sc_law_automaton.nd rfl (.inl rfl)) (pss_one
      (ps_expr (pe_bm PySem.F.plainAttrs_list PySem.F.slot_list_append PySem.F.type_list_append mt_append (pv 7) (pa_cons (pe_lc (own := [("letter", 9)]) (g := gName 9) (tt := tYes) rfl sc_law_automaton.nd (pi_range1 (by rfl) T.z_range (pa_cons (pv 1) pa_nil)) (blkOk_by (N := N_law_automaton) (sc := defScope s_law_automaton) (by decide +kernel)) (fun _ _ _ _ _ => (pg_name (i := 9) sc_law_automaton.nd rfl (Or.inl rfl))) (fun _ _ _ _ _ => pts_nil) (fun _ _ _ _ _ => (C8.pe_c C_law_ascending hr (by decide) (by rfl) (pa_cons (pv 0) (pa_cons (pv 3) (pa_cons (pv 4) pa_nil)))))) pa_nil)))))
      (pss_one
      (ps_ret (pe_tup (pa_cons (pv 5) (pa_cons (pv 6) (pa_cons (pv 7) pa_nil))))))))))))), ?_⟩
    refine ⟨_, rfl, _, rfl, d, m, rfl, hd, by omega, fun c ds c0 c1 => ?_⟩
    have k1 : Kp d H (upd H d (.lst (ds.map V.int))) := Kp.own
    have d1 : Drw (upd H d (.lst (ds.map V.int))) d := Drw.own
    generalize upd H d (.lst (ds.map V.int)) = H1 at *
    refine ⟨_, _, rfl, rfl, ?_⟩
    refine ⟨_, rfl, d, 4, rfl, d1, by decide, fun sh ds2 t0 t1 => ?_⟩
    have k2 : Kp d H (upd H1 d (.lst (ds2.map V.int))) := k1.trans Kp.own
    have d2 : Drw (upd H1 d (.lst (ds2.map V.int))) d := Drw.own
    generalize upd H1 d (.lst (ds2.map V.int)) = H2 at *
    clear d1 k1
    refine ⟨_, _, rfl, rfl, ?_⟩
    refine ⟨_, rfl, _, rfl, d, 1 + c, 5, rfl, d2, by omega, by omega, fun H3 ii ini k3 d3 fi ei hi li => ?_⟩
    have ndi : d ≠ ii := fun z => by obtain ⟨o, y⟩ := d2; rw [z, fi] at y; cases y
    refine ⟨_, rfl, _, rfl, d, 1 + c, 5, rfl, d3, by omega, by omega, fun H4 aa acc k4 d4 fa ea ha la => ?_⟩
    have nda : d ≠ aa := fun z => by obtain ⟨o, y⟩ := d3; rw [z, fa] at y; cases y
    have ei4 := hp_kp k4 ndi ei
    have k04 := (k2.trans k3).trans k4
    clear k2 k3 k4 d2 d3 ei fi fa
    refine ⟨fun σ H5 => ∃ (ii : Addr) (ini : List Int), σ = [some (.ref d), some (.int L), some (.int m), some (.int (1 + c)), some (.int (2 + sh)), some (.ref ii), some (.ref aa), none, none, none] ∧ Kp d H H5 ∧ Drw H5 d ∧ d ≠ ii ∧ H5 ii = some (.lst (ini.map V.int)) ∧ Asc (1 + c) ini ∧ ini.length ≤ 100 ∧ H5 aa = some (.lst (acc.map V.int)), ?_, ?_⟩
    · refine ⟨_, rfl, ii, _, rfl, .inl (.of ei4), rfl, _, rfl, ite_eq (fun c3 => ?_) (fun c3 => ⟨ii, ini, rfl, k04, d4, ndi, ei4, hi, by omega, ea⟩)⟩
      refine ⟨_, rfl, d, 4, rfl, d4, by decide, fun u us u0 u1 => ?_⟩
      have k5 : Kp d H (upd H4 d (.lst (us.map V.int))) := k04.trans Kp.own
      have d5 : Drw (upd H4 d (.lst (us.map V.int))) d := Drw.own
      have ei5 := hp_kp (Kp.own (o := .lst (us.map V.int))) ndi ei4
      have ea5 := hp_kp (Kp.own (o := .lst (us.map V.int))) nda ea
      generalize upd H4 d (.lst (us.map V.int)) = H5 at *
      refine ⟨_, _, rfl, rfl, _, rfl, ite2 (fun c4 => ?_) (fun c4 => ⟨ii, ini, rfl, k5, d5, ndi, ei5, hi, by omega, ea5⟩)⟩
      refine ⟨by show 1 ≤ sizeLine; decide, fun t ht => ?_⟩
      have ndt : d ≠ t := fun z => by obtain ⟨o, y⟩ := d5; rw [z, ht] at y; cases y
      exact ⟨t, [0], rfl, k5.trans (Kp.new ht), d5.new ht, ndt, upd_same, ⟨by simp, fun x hx => by rw [List.mem_singleton.mp hx]; omega⟩, by simp, same_new ht _ _ ea5⟩
    · clear ei4 ea d4 k04 ndi hi li
      rintro σ H5 ⟨ii, ini, rfl, k5, d5, ndi, ei, hi, li, ea⟩
      obtain ⟨n, hn⟩ : ∃ n : Nat, n = (1 + c).toNat := ⟨_, rfl⟩
      have en : (n : Int) = 1 + c := by omega
      refine ⟨Nat.zero_le _, fun r hr0 => ?_⟩
      have nrd : r ≠ d := fun z => by obtain ⟨o, y⟩ := d5; rw [← z, hr0] at y; cases y
      have nir : ii ≠ r := fun z => by rw [z, hr0] at ei; cases ei
      have nar : aa ≠ r := fun z => by rw [z, hr0] at ea; cases ea
      refine ⟨_, rfl, _, rfl, by omega, by omega, for_range (lo := 0) (n := (1 + c).toNat) (fun i σ H' => ∃ (as : List Addr) (bss : List (List Addr)) (cu : List (List (List Int))) (v8 : Option V), σ = [some (.ref d), some (.int L), some (.int m), some (.int (1 + c)), some (.int (2 + sh)), some (.ref ii), some (.ref aa), some (.ref r), v8, none] ∧
          Kp d H5 H' ∧ Drw H' d ∧ LC H' r as bss cu ∧ cu.length = i ∧ (∀ q ∈ cu, (q.length : Int) = L ∧ ∀ e ∈ q, Asc (1 + c) e ∧ e.length ≤ 100) ∧ as.Nodup ∧ (∀ b, (b ∈ as ∨ ∃ bs ∈ bss, b ∈ bs) → b ≠ d ∧ b ≠ r))
        ⟨[], [], [], none, rfl, Kp.new hr0, d5.new hr0, ⟨upd_same, True.intro⟩, rfl, by simp, List.nodup_nil, fun b hb => by simp at hb⟩ ?_ ?_⟩
      · rintro i σ H6 hi6 ⟨as, bss, cu, v8, rfl, k6, d6, L6, cl, hcu, nd, nn⟩
        refine ⟨_, rfl, .inl ⟨rfl, _, .of L6.1⟩, _, rfl, _, rfl, by omega, by omega, fun E1 hE => ?_⟩
        have nEd : E1 ≠ d := fun z => by obtain ⟨o, y⟩ := d6; rw [← z, hE] at y; cases y
        refine lc_range (lo := 0) (n := L.toNat) (fun j H' => ∃ (bs : List Addr) (es : List (List Int)), Kp d H6 H' ∧ Drw H' d ∧ H' E1 = some (.lst (bs.map V.ref)) ∧ RowsA .lst H' bs es ∧ es.length = j ∧ (∀ e ∈ es, Asc (1 + c) e ∧ e.length ≤ 100) ∧ ∀ b ∈ bs, b ≠ E1 ∧ b ≠ d ∧ b ≠ r)
          ⟨[], [], Kp.new hE, d6.new hE, upd_same, True.intro, rfl, by simp, by simp⟩ ?_ ?_
        · rintro j H7 hj ⟨bs, es, k7, d7, e7, R7, el, hes, nb⟩
          refine ⟨rfl, _, rfl, _, rfl, _, rfl, d, 1 + c, 2 + sh, rfl, d7, by omega, by omega, fun H8 t ys k8 d8 ft et hA yl => ?_⟩
          have ntE : t ≠ E1 := fun z => by rw [← z, ft] at e7; cases e7
          have ntd : t ≠ d := fun z => by obtain ⟨o, y⟩ := d7; rw [← z, ft] at y; cases y
          have ntr : t ≠ r := fun z => by have := k7 _ _ nrd L6.1; rw [← z, ft] at this; cases this
          have bl := R7.len
          refine ⟨_, k8 _ _ nEd e7, by rw [List.length_map]; exact Nat.lt_of_le_of_lt (show bs.length ≤ 1000 by omega) (by decide), bs ++ [t], es ++ [ys], ?_, ?_, ?_, ?_, by simp [el], ?_, ?_⟩
          · intro b o nb hb
            rw [upd_ne (ne_of_none hb hE)]
            exact k8 _ _ nb (k7 _ _ nb hb)
          · obtain ⟨o, y⟩ := d8
            exact ⟨o, by rw [upd_ne nEd.symm]; exact y⟩
          · rw [upd_same, List.map_append]
            rfl
          · refine RowsA.snoc ?_ (R7.keep fun b o hb h => ?_)
            · rw [upd_ne ntE]
              exact et
            · rw [upd_ne (nb b hb).1]
              exact k8 _ _ (nb b hb).2.1 h
          · intro e he
            rcases List.mem_append.mp he with z | z
            · exact hes e z
            · rw [List.mem_singleton.mp z]
              exact ⟨hA, by omega⟩
          · intro b hb
            rcases List.mem_append.mp hb with z | z
            · exact nb b z
            · rw [List.mem_singleton.mp z]
              exact ⟨ntE, ntd, ntr⟩
        · rintro H7 ⟨bs, es, k7, d7, e7, R7, el, hes, nb⟩
          have nrE : E1 ≠ r := fun z => by have := L6.1; rw [← z, hE] at this; cases this
          have nEa : E1 ∉ as := fun z => by
            obtain ⟨o, y⟩ := cub_some L6.2 (.inl z)
            rw [hE] at y
            cases y
          have bl := (cub_len L6.2).1
          refine ⟨r, _, _, rfl, rfl, k7 _ _ nrd L6.1, by rw [List.length_map]; exact Nat.lt_of_le_of_lt (show as.length ≤ 1000 by omega) (by decide), ?_⟩
          refine ⟨as ++ [E1], bss ++ [bs], cu ++ [es], _, rfl, ?_, ?_, ⟨?_, ?_⟩, by simp [cl], ?_, ?_, ?_⟩
          · intro b o nb hb
            rw [upd_ne (ne_of_none hb hr0)]
            exact k7 _ _ nb (k6 _ _ nb hb)
          · obtain ⟨o, y⟩ := d7
            exact ⟨o, by rw [upd_ne nrd.symm]; exact y⟩
          · rw [upd_same, List.map_append]
            rfl
          · refine cub_snoc ?_ (R7.keep fun b o hb h => by rw [upd_ne (nb b hb).2.2]; exact h) (cub_keep (fun b o hb h => ?_) L6.2)
            · rw [upd_ne nrE]
              exact e7
            · rw [upd_ne (nn b hb).2]
              exact k7 _ _ (nn b hb).1 h
          · intro q hq
            rcases List.mem_append.mp hq with z | z
            · exact hcu q z
            · rw [List.mem_singleton.mp z]
              exact ⟨by omega, hes⟩
          · refine List.nodup_append.mpr ⟨nd, by simp, fun a ha b hb => ?_⟩
            rw [List.mem_singleton.mp hb]
            exact fun z => nEa (by rw [← z]; exact ha)
          · intro b hb
            rcases hb with z | ⟨q, z, y⟩
            · rcases List.mem_append.mp z with u | u
              · exact nn b (.inl u)
              · rw [List.mem_singleton.mp u]
                exact ⟨nEd, nrE⟩
            · rcases List.mem_append.mp z with u | u
              · exact nn b (.inr ⟨q, u, y⟩)
              · rw [List.mem_singleton.mp u] at y
                exact ⟨(nb b y).2.1, (nb b y).2.2⟩
      · rintro σ H6 ⟨as, bss, cu, v8, rfl, k6, d6, L6, cl, hcu, nd, nn⟩
        rw [← hn] at cl
        refine ⟨_, rfl, _, rfl, _, rfl, by show 3 ≤ sizeLine; decide, fun t ht => ?_⟩
        have s7 := same_new (o := .tup [.ref ii, .ref aa, .ref r]) ht
        have ei6 := hp_kp k6 ndi ei
        have ea6 := hp_kp k6 nda ea
        refine q _ t ii aa r as bss ini acc cu ((k5.trans k6).trans (Same.kp s7)) (d6.new ht) upd_same (s7 _ _ ei6) (s7 _ _ ea6) (lc_same s7 L6) ⟨ndi, nda, nrd.symm, fun b hb => (nn b hb).1, nd, fun z => (nn r (.inl z)).2 rfl, fun bs hb z => (nn r (.inr ⟨bs, hb, z⟩)).2 rfl⟩ ⟨by omega, fun z => by rw [z] at cl; simp at cl; omega, asc_mono hi (by omega), asc_mono ha (by omega), fun q hq => ⟨(hcu q hq).1, fun e he => asc_mono ((hcu q hq).2 e he).1 (by omega)⟩⟩ (by omega) li (by omega) (fun q hq e he => ((hcu q hq).2 e he).2)
theorem op_inK {X : Cx} {K : PySem.W.Frag} (h : X.K = K) : OpR X (compareOp .In) (rIn K false) := by
  subst h
  exact op_in_seq
theorem sqt_same {K : PySem.W.Frag} {H H' : Hp} {a : Addr} {xs : List V} (e : Same H H') (h : SqT K H a xs) : SqT K H' a xs := by
  rcases h with (h | ⟨o, h⟩) | h
  · exact .inl (.inl (e _ _ h))
  · exact .inl (.inr ⟨o, e _ _ h⟩)
  · exact .inr h
def ArrB (H : Hp) (a : Addr) (N : Nat) (s : Nat → Bool) : Prop := H a = some (.lst ((List.range N).map fun t => V.bl (s t)))
theorem arrb_get {N t : Nat} {s : Nat → Bool} (h : t < N) : ((List.range N).map fun t => V.bl (s t))[t]? = some (.bl (s t)) := by
  rw [List.getElem?_map, List.getElem?_range h]
  rfl
theorem arrb_len {N : Nat} {s : Nat → Bool} : ((List.range N).map fun t => V.bl (s t)).length = N := by rw [List.length_map, List.length_range]
theorem arrb_set {N i : Nat} {s : Nat → Bool} {c : Bool} : ((List.range N).map fun t => V.bl (s t)).set i (.bl c) = (List.range N).map fun t => V.bl (if t = i then c else s t) := by
  apply List.ext_getElem?
  intro j
  rw [List.getElem?_set]
  by_cases h : i = j
  · subst h
    rw [if_pos rfl, arrb_len]
    by_cases hl : i < N
    · rw [if_pos hl, arrb_get hl, if_pos rfl]
    · rw [if_neg hl, List.getElem?_eq_none (by rw [arrb_len]; omega)]
  · rw [if_neg h, List.getElem?_map, List.getElem?_map]
    by_cases hl : j < N
    · rw [List.getElem?_range hl]
      simp [show ¬ j = i from fun z => h z.symm]
    · rw [List.getElem?_eq_none (by rw [List.length_range]; omega)]
      rfl
theorem arrb_rep {N : Nat} {c : Bool} : ((List.replicate N [V.bl c]).flatten) = (List.range N).map fun t => V.bl ((fun _ => c) t) := by
  induction N with
  | zero => rfl
  | succ n ih =>
    rw [List.replicate_succ', List.flatten_append, ih, List.range_succ, List.map_append]
    rfl
theorem arrb_ext {N : Nat} {xs : List V} {s : Nat → Bool} (hl : xs.length = N) (h : ∀ t, t < N → xs[t]? = some (.bl (s t))) : xs = (List.range N).map fun t => V.bl (s t) := by
  apply List.ext_getElem?
  intro t
  by_cases c : t < N
  · rw [h t c, arrb_get c]
  · rw [List.getElem?_eq_none (by omega), List.getElem?_eq_none (by rw [arrb_len]; omega)]
theorem arrb_congr {N : Nat} {s r : Nat → Bool} (h : ∀ t, t < N → s t = r t) : ((List.range N).map fun t => V.bl (s t)) = (List.range N).map fun t => V.bl (r t) :=
  List.map_congr_left fun t ht => by rw [h t (List.mem_range.mp ht)]
/-! `_law_lives` as a function of its tables -/
section
variable (mv : Nat → List Int) (goods : Nat → Bool) (n : Nat)
def hit (kept reach : Nat → Bool) (ts : List Int) : Bool := ts.any fun t => kept t.toNat && (goods t.toNat || reach t.toNat)
def stp (kept : Nat → Bool) (k : Nat) (p : (Nat → Bool) × Bool) : (Nat → Bool) × Bool :=
  if (kept k && !p.1 k && hit goods kept p.1 (mv k)) = true then (fun t => if t = k then true else p.1 t, true) else p
def pas (kept : Nat → Bool) : Nat → (Nat → Bool) × Bool → (Nat → Bool) × Bool
  | 0, p => p
  | j + 1, p => stp mv goods kept (n - 1 - j) (pas kept j p)
def inn (kept : Nat → Bool) : Nat → (Nat → Bool) → Nat → Bool
  | 0, r => r
  | f + 1, r => if (pas mv goods n kept n (r, false)).2 = true then inn kept f (pas mv goods n kept n (r, false)).1 else (pas mv goods n kept n (r, false)).1
def eqB (r k : Nat → Bool) : Bool := decide (∀ t, t < n → r t = k t)
def out : Nat → (Nat → Bool) → Nat → Bool
  | 0, k => k
  | f + 1, k => if eqB n (inn mv goods n k (n + 1) fun _ => false) k = true then k else out f (inn mv goods n k (n + 1) fun _ => false)
def lives (ss : List Int) : Bool := ss.any fun s => out mv goods n (n + 1) (fun _ => true) s.toNat
end
theorem hit_congr {goods kept reach : Nat → Bool} {ts us : List Int} (h : ∀ t, t ∈ ts ↔ t ∈ us) : hit goods kept reach ts = hit goods kept reach us := by
  unfold hit
  rw [Bool.eq_iff_iff, List.any_eq_true, List.any_eq_true]
  exact ⟨fun ⟨t, a, b⟩ => ⟨t, (h t).mp a, b⟩, fun ⟨t, a, b⟩ => ⟨t, (h t).mpr a, b⟩⟩
theorem stp_congr {mv mv' : Nat → List Int} (h : ∀ k t, t ∈ mv k ↔ t ∈ mv' k) (goods kept : Nat → Bool) (k : Nat) (p : (Nat → Bool) × Bool) : stp mv goods kept k p = stp mv' goods kept k p := by
  unfold stp
  rw [hit_congr (h k)]
theorem pas_congr {mv mv' : Nat → List Int} (h : ∀ k t, t ∈ mv k ↔ t ∈ mv' k) (goods kept : Nat → Bool) (n : Nat) (p : (Nat → Bool) × Bool) : ∀ j, pas mv goods n kept j p = pas mv' goods n kept j p
  | 0 => rfl
  | j + 1 => by
    unfold pas
    rw [pas_congr h goods kept n p j, stp_congr h]
theorem inn_congr {mv mv' : Nat → List Int} (h : ∀ k t, t ∈ mv k ↔ t ∈ mv' k) (goods kept : Nat → Bool) (n : Nat) : ∀ f r, inn mv goods n kept f r = inn mv' goods n kept f r
  | 0, _ => rfl
  | f + 1, r => by
    unfold inn
    rw [pas_congr h, inn_congr h goods kept n f]
theorem out_congr {mv mv' : Nat → List Int} (h : ∀ k t, t ∈ mv k ↔ t ∈ mv' k) (goods : Nat → Bool) (n : Nat) : ∀ f k, out mv goods n f k = out mv' goods n f k
  | 0, _ => rfl
  | f + 1, k => by
    unfold out
    rw [inn_congr h, out_congr h goods n f]
theorem lives_congr {mv mv' : Nat → List Int} (h : ∀ k t, t ∈ mv k ↔ t ∈ mv' k) (goods : Nat → Bool) (n : Nat) (ss : List Int) : lives mv goods n ss = lives mv' goods n ss := by
  unfold lives
  rw [out_congr h]
/-- the rows of targets -/
structure Mvs (H : Hp) (M : Addr) (as : List Addr) (mv : Nat → List Int) (n : Nat) : Prop where
  at_ : H M = some (.lst (as.map V.ref))
  len : as.length = n
  row : ∀ (k : Nat) (a : Addr), as[k]? = some a → H a = some (.lst ((mv k).map V.int))
  lim : ∀ (k : Nat), k < n → (mv k).length ≤ 100000 ∧ ∀ t, t ∈ mv k → 0 ≤ t ∧ t < (n : Int)
theorem Mvs.same {H H' : Hp} {M : Addr} {as : List Addr} {mv : Nat → List Int} {n : Nat} (h : Mvs H M as mv n) (s : Same H H') : Mvs H' M as mv n := ⟨s _ _ h.at_, h.len, fun k a e => s _ _ (h.row k a e), h.lim⟩
def spLives : Sp := fun vs H Q _ => ∃ (M G S : Addr) (as : List Addr) (mv : Nat → List Int) (goods : Nat → Bool) (n : Nat) (ss : List Int), vs = [.ref M, .ref G, .ref S] ∧ Mvs H M as mv n ∧ ArrB H G n goods ∧ H S = some (.lst (ss.map V.int)) ∧ n ≤ 100000 ∧ (∀ s ∈ ss, 0 ≤ s ∧ s < (n : Int)) ∧
  ∀ H', Same H H' → Q (.bl (lives mv goods n ss)) H'
theorem bl_at {N : Nat} {s : Nat → Bool} {t : Int} (h0 : 0 ≤ t) (h1 : t < (N : Int)) : atI ((List.range N).map fun t => V.bl (s t)) t = some (.bl (s t.toNat)) := by
  have e : t = ((t.toNat : Nat) : Int) := by omega
  rw [e]
  exact atI_nat (by rw [arrb_get (by omega)]; rfl)
theorem eqB_data {n : Nat} (r k : Nat → Bool) : PyData.eqv (.list ((List.range n).map fun t => PyData.bool (r t))) (.list ((List.range n).map fun t => PyData.bool (k t))) = eqB n r k := by
  have go : ∀ l : List Nat, PyData.eqvAll (l.map fun t => PyData.bool (r t)) (l.map fun t => PyData.bool (k t)) = decide (∀ t, t ∈ l → r t = k t) := fun l => by
    induction l with
    | nil => simp [PyData.eqvAll]
    | cons a l ih => 
      rw [List.map_cons, List.map_cons, PyData.eqvAll, ih]
      simp [PyData.eqv]
      first | done | (cases r a <;> cases k a <;> rfl) | (congr 1; cases r a <;> cases k a <;> rfl)
  unfold eqB
  rw [PyData.eqv, go]
  simp [List.mem_range]
theorem dpb {K : PySem.W.Frag} {H : Hp} {a : Addr} {n : Nat} {r : Nat → Bool} (h : ArrB H a n r) : Dp K H (.ref a) (.list ((List.range n).map fun t => PyData.bool (r t))) := by
  have go : ∀ l : List Nat, DpAll K H (l.map fun t => V.bl (r t)) (l.map fun t => PyData.bool (r t)) := fun l => by
    induction l with
    | nil => exact .nil
    | cons a l ih => exact .cons (.bl _) ih
  exact .lst (.of h) (go _)
theorem shb {n : Nat} {r : Nat → Bool} : SeqAt.shaped (.list ((List.range n).map fun t => PyData.bool (r t))) = true := by
  have go : ∀ l : List Nat, PyData.canLayAll0 (l.map fun t => PyData.bool (r t)) = true := fun l => by
    induction l with
    | nil => simp [PyData.canLayAll0]
    | cons a l ih => simp [PyData.canLayAll0, PyData.canLay0] at ih ⊢; exact ih
  have dp : ∀ l : List Nat, PyData.depthAll (l.map fun t => PyData.bool (r t)) = 0 := fun l => by
    induction l with
    | nil => simp [PyData.depthAll]
    | cons a l ih => rw [List.map_cons, PyData.depthAll, ih]; simp [PyData.depth]
  unfold SeqAt.shaped
  rw [PyData.canLay0, go, PyData.depth, dp]
  rfl
theorem cal_lives (T : Txt K mg) : C8.Cal P w K mg base 1 "_law_lives" spLives [] := by
  obtain ⟨f, fd, F, hm, hb⟩ := T.h_law_lives
  refine ⟨f, fd, _, [], F.ok sc_law_lives (fun vs H Q E h => ?_) (fun cdv A outer s H vs Q E hr h => ?_), hm, F.kp, hb, .nil⟩
  · obtain ⟨M, G, S, as, mv, goods, n, ss, rfl, _⟩ := h
    rfl
  · obtain ⟨M, G, S, as, mv, goods, n, ss, rfl, hM, hG, hS, hn, hss, q⟩ := h
    refine ⟨_, (pss_cons
      (ps_set (i := 3) sc_law_lives.nd rfl (Or.inl rfl) (pe_op op_rep (pe_lst (pa_cons pe_bl pa_nil)) (pe_callB (call_lenK (K := K) rfl) (by rfl) T.z_len PySem.boot_len (pa_cons (pv 0) pa_nil))))
      (C8.pss_cut
      (ps_for PassesOwn.never rfl (pi_range1 (by rfl) T.z_range (pa_cons (pe_op op_add (pe_callB (call_lenK (K := K) rfl) (by rfl) T.z_len PySem.boot_len (pa_cons (pv 0) pa_nil)) pe_int) pa_nil)) (pg_name (i := 4) sc_law_lives.nd rfl (.inl rfl)) (pss_cons
      (ps_set (i := 5) sc_law_lives.nd rfl (Or.inl rfl) (pe_op op_rep (pe_lst (pa_cons pe_bl pa_nil)) (pe_callB (call_lenK (K := K) rfl) (by rfl) T.z_len PySem.boot_len (pa_cons (pv 0) pa_nil))))
      (C8.pss_cut
      (ps_for PassesOwn.never rfl (pi_range1 (by rfl) T.z_range (pa_cons (pe_op op_add (pe_callB (call_lenK (K := K) rfl) (by rfl) T.z_len PySem.boot_len (pa_cons (pv 0) pa_nil)) pe_int) pa_nil)) (pg_name (i := 6) sc_law_lives.nd rfl (.inl rfl)) (pss_cons
      (ps_set (i := 7) sc_law_lives.nd rfl (Or.inl rfl) pe_bl)
      (pss_cons
      (ps_for PassesOwn.never rfl (pi_range1 (by rfl) T.z_range (pa_cons (pe_callB (call_lenK (K := K) rfl) (by rfl) T.z_len PySem.boot_len (pa_cons (pv 0) pa_nil)) pa_nil)) (pg_name (i := 8) sc_law_lives.nd rfl (.inl rfl)) (pss_cons
      (ps_set (i := 9) sc_law_lives.nd rfl (Or.inl rfl) (pe_op op_sub (pe_op op_sub (pe_callB (call_lenK (K := K) rfl) (by rfl) T.z_len PySem.boot_len (pa_cons (pv 0) pa_nil)) pe_int) (pv 8)))
      (pss_one
      (ps_if (PW.pt (pw_and (pt_val (pe_ix (ix_listK (K := K) rfl) (pv 3) (pv 9) (fun _ _ => rfl))) (pw_and1 (pt_not (pt_val (pe_ix (ix_listK (K := K) rfl) (pv 5) (pv 9) (fun _ _ => rfl))))))) (pss_one
      (ps_for PassesOwn.never rfl (pi_list (pe_ix (ix_listK (K := K) rfl) (pv 0) (pv 9) (fun _ _ => rfl))) (pg_name (i := 10) sc_law_lives.nd rfl (.inl rfl)) (pss_one
      (ps_if (PW.pt (pw_and (pt_val (pe_ix (ix_listK (K := K) rfl) (pv 3) (pv 10) (fun _ _ => rfl))) (pw_and1 (PW.pt (pw_or (pt_val (pe_ix (ix_listK (K := K) rfl) (pv 1) (pv 10) (fun _ _ => rfl))) (pw_or1 (pt_val (pe_ix (ix_listK (K := K) rfl) (pv 5) (pv 10) (fun _ _ => rfl))))))))) (pss_cons
      (ps_asg pe_bl (pg_sub (pv 5) (pv 9) set_list))
      (pss_one
      (ps_set (i := 7) sc_law_lives.nd rfl (Or.inl rfl) pe_bl))) pss_nil)))) pss_nil))))
      (pss_one
      (ps_if (pt_not (pt_val (pv 7))) (pss_one
      ps_break) pss_nil)))))
      (pss_cons
      (ps_if (pt_cmpR (op_eqDK (K := K) rfl hr.units) (pv 5) (pv 3) (nomark _)) (pss_one
      ps_break) pss_nil)
      (pss_one
      (ps_set (i := 3) sc_law_lives.nd rfl (Or.inl rfl) (pv 5)))))))
      (pss_cons
      (ps_for PassesOwn.never rfl (pi_list (pv 2)) (pg_name (i := 11) sc_law_lives.nd rfl (.inl rfl)) (pss_one
      (ps_if (pt_val (pe_ix (ix_listK (K := K) rfl) (pv 3) (pv 11) (fun _ _ => rfl))) (pss_one
      (ps_ret pe_bl)) pss_nil)))
      (pss_one
      (ps_ret pe_bl))))), ?_⟩
    have hbig : n ≤ sizeLine := Nat.le_trans hn (by decide)
    have hml : (as.map V.ref).length = n := by rw [List.length_map, hM.len]
    refine ⟨by show 1 ≤ sizeLine; decide, fun p1 n1 => ?_⟩
    have s1 : Same H (upd H p1 (.lst [.bl true])) := same_new n1
    refine ⟨_, rfl, M, _, rfl, .inl (.of (s1 _ _ hM.at_)), p1, _, _, rfl, rfl, upd_same, ?_, ?_, ?_, fun o ho => ?_⟩
    · rw [hml]; omega
    · rw [hml]; omega
    · rw [hml]; show 1 * ((n : Nat) : Int).toNat ≤ sizeLine; omega
    have ho0 : H o = none := s1.free ho
    rw [hml, Int.toNat_natCast, arrb_rep]
    have s2 := s1.trans (same_new (o := .lst ((List.range n).map fun t => V.bl ((fun _ => true) t))) ho)
    have e2 : ArrB (upd (upd H p1 (.lst [.bl true])) o (.lst ((List.range n).map fun t => V.bl ((fun _ => true) t)))) o n (fun _ => true) := upd_same
    generalize upd (upd H p1 (.lst [.bl true])) o (.lst ((List.range n).map fun t => V.bl ((fun _ => true) t))) = H2 at s2 e2 ⊢
    -- the rounds
    refine ⟨fun σ H3 => ∃ (o3 : Addr) (v4 v5 v6 v7 v8 v9 v10 v11 : Option V), σ = [some (.ref M), some (.ref G), some (.ref S), some (.ref o3), v4, v5, v6, v7, v8, v9, v10, v11] ∧ Same H H3 ∧ ArrB H3 o3 n (out mv goods n (n + 1) fun _ => true), ?_, ?_⟩
    · refine ⟨_, rfl, M, _, rfl, .inl (.of (s2 _ _ hM.at_)), _, _, rfl, rfl, _, rfl, by rw [hml]; omega, by rw [hml]; omega, ?_⟩
      rw [hml]
      refine for_range (lo := 0) (n := ((n : Int) + 1).toNat) (fun i σ H3 => ∃ (o3 : Addr) (kp : Nat → Bool) (v4 v5 v6 v7 v8 v9 v10 v11 : Option V), σ = [some (.ref M), some (.ref G), some (.ref S), some (.ref o3), v4, v5, v6, v7, v8, v9, v10, v11] ∧ Same H H3 ∧ H o3 = none ∧ ArrB H3 o3 n kp ∧
        out mv goods n (n + 1 - i) kp = out mv goods n (n + 1) fun _ => true) ⟨o, _, none, none, none, none, none, none, none, none, rfl, s2, ho0, e2, rfl⟩ ?_ ?_
      · rintro i σ H3 hi ⟨o3, kp, v4, v5, v6, v7, v8, v9, v10, v11, rfl, s3, hk0, e3, hout⟩
        have hi' : i < n + 1 := by omega
        refine ⟨by show 1 ≤ sizeLine; decide, fun p4 n4 => ?_⟩
        have s4 : Same H3 (upd H3 p4 (.lst [.bl false])) := same_new n4
        refine ⟨_, rfl, M, _, rfl, .inl (.of ((s3.trans s4) _ _ hM.at_)), p4, _, _, rfl, rfl, upd_same, ?_, ?_, ?_, fun r hr0 => ?_⟩
        · rw [hml]; omega
        · rw [hml]; omega
        · rw [hml]; show 1 * ((n : Nat) : Int).toNat ≤ sizeLine; omega
        rw [hml, Int.toNat_natCast, arrb_rep]
        have s5 := s4.trans (same_new (o := .lst ((List.range n).map fun t => V.bl ((fun _ => false) t))) hr0)
        have e5 : ArrB (upd (upd H3 p4 (.lst [.bl false])) r (.lst ((List.range n).map fun t => V.bl ((fun _ => false) t)))) r n (fun _ => false) := upd_same
        have r0 : H3 r = none := s4.free hr0
        have rk : o3 ≠ r := fun z => by rw [ArrB, z, r0] at e3; cases e3
        have rH : H r = none := s3.free r0
        have k5 := s5 _ _ e3
        generalize upd (upd H3 p4 (.lst [.bl false])) r (.lst ((List.range n).map fun t => V.bl ((fun _ => false) t))) = H5 at s5 e5 k5 ⊢
        have s05 := s3.trans s5
        clear s4 hr0 n4 s5 r0 e3
        -- again and again
        refine ⟨fun σ H6 => ∃ (v6 v7 v8 v9 v10 : Option V), σ = [some (.ref M), some (.ref G), some (.ref S), some (.ref o3), some (.int (0 + (i : Int))), some (.ref r), v6, v7, v8, v9, v10, v11] ∧ Same H H6 ∧ ArrB H6 o3 n kp ∧ ArrB H6 r n (inn mv goods n kp (n + 1) fun _ => false), ?_, ?_⟩
        · refine ⟨_, rfl, M, _, rfl, .inl (.of (s05 _ _ hM.at_)), _, _, rfl, rfl, _, rfl, by rw [hml]; omega, by rw [hml]; omega, ?_⟩
          rw [hml]
          refine for_range (lo := 0) (n := ((n : Int) + 1).toNat) (fun i6 σ H6 => ∃ (rc : Nat → Bool) (v6 v7 v8 v9 v10 : Option V), σ = [some (.ref M), some (.ref G), some (.ref S), some (.ref o3), some (.int (0 + (i : Int))), some (.ref r), v6, v7, v8, v9, v10, v11] ∧ Same H H6 ∧ ArrB H6 o3 n kp ∧ ArrB H6 r n rc ∧
            inn mv goods n kp (n + 1 - i6) rc = inn mv goods n kp (n + 1) fun _ => false) ⟨_, v6, v7, v8, v9, v10, rfl, s05, k5, e5, rfl⟩ ?_ ?_
          · clear s05 k5 e5
            rintro i6 σ H6 hi6 ⟨rc, v6, v7, v8, v9, v10, rfl, s6, k6, e6, hinn⟩
            refine ⟨_, rfl, M, _, rfl, .inl (.of (s6 _ _ hM.at_)), _, rfl, by rw [hml]; omega, by rw [hml]; omega, ?_⟩
            rw [hml, Int.toNat_natCast]
            refine for_range (lo := 0) (n := n) (fun j σ H7 => ∃ (v8 v9 v10 : Option V), σ = [some (.ref M), some (.ref G), some (.ref S), some (.ref o3), some (.int (0 + (i : Int))), some (.ref r), some (.int (0 + (i6 : Int))), some (.bl (pas mv goods n kp j (rc, false)).2), v8, v9, v10, v11] ∧ Same H H7 ∧ ArrB H7 o3 n kp ∧
              ArrB H7 r n (pas mv goods n kp j (rc, false)).1) ⟨v8, v9, v10, rfl, s6, k6, e6⟩ ?_ ?_
            · clear s6 k6 e6
              rintro j σ H7 hj ⟨v8, v9, v10, rfl, s7, k7, e7⟩
              obtain ⟨p, hp⟩ : ∃ p, pas mv goods n kp j (rc, false) = p := ⟨_, rfl⟩
              have hps : pas mv goods n kp (j + 1) (rc, false) = stp mv goods kp (n - 1 - j) p := by rw [← hp]; rfl
              rw [hp] at e7 ⊢
              rw [hps]
              refine ⟨_, rfl, M, _, rfl, .inl (.of (s7 _ _ hM.at_)), _, _, rfl, rfl, _, rfl, _, _, rfl, rfl, ?_⟩
              rw [hml]
              dsimp only
              obtain ⟨k, hk⟩ : ∃ k, n - 1 - j = k := ⟨_, rfl⟩
              have hkn : k < n := by omega
              rw [show ((n : Nat) : Int) - 1 - (0 + (j : Int)) = (k : Int) by omega, hk]
              have kat : ∀ {f : Nat → Bool}, atI ((List.range n).map fun t => V.bl (f t)) (k : Int) = some (.bl (f k)) := fun {f} => bl_at (t := (k : Int)) (by omega) (by omega)
              have stay : ¬ (kp k && !p.1 k) = true → ∃ (v8' v9' v10' : Option V), [some (V.ref M), some (.ref G), some (.ref S), some (.ref o3), some (.int (0 + (i : Int))), some (.ref r), some (.int (0 + (i6 : Int))), some (.bl p.2), some (.int (0 + (j : Int))), some (.int (k : Int)), v10, v11] = [some (.ref M), some (.ref G), some (.ref S), some (.ref o3), some (.int (0 + (i : Int))), some (.ref r), some (.int (0 + (i6 : Int))), some (.bl (stp mv goods kp k p).2), v8', v9', v10', v11] ∧ Same H H7 ∧ ArrB H7 o3 n kp ∧
                  ArrB H7 r n (stp mv goods kp k p).1 := fun c => by
                have e : stp mv goods kp k p = p := by
                  unfold stp
                  rw [if_neg (fun z => c (Bool.and_eq_true_iff.mp z).1)]
                rw [e]
                exact ⟨_, _, _, rfl, s7, k7, e7⟩
              refine ⟨_, rfl, _, rfl, o3, _, _, _, rfl, rfl, .of k7, kat, _, rfl, ite2 (fun c1 => ?_) (fun c1 => ?_)⟩
              · refine ⟨_, rfl, _, rfl, r, _, _, _, rfl, rfl, .of e7, kat, _, rfl, ite2 (fun c2 => ?_) (fun c2 => ?_)⟩
                · have hc12 : (kp k && !p.1 k) = true := by rw [c1, c2]; rfl
                  have hstp : stp mv goods kp k p = if hit goods kp p.1 (mv k) = true then (fun t => if t = k then true else p.1 t, true) else p := by
                    unfold stp
                    rw [hc12, Bool.true_and]
                  obtain ⟨b, hb1⟩ : ∃ b, as[k]? = some b := ⟨_, List.getElem?_eq_getElem (by rw [hM.len]; exact hkn)⟩
                  have M7 := hM.same s7
                  have hbr := hM.row k b hb1
                  obtain ⟨hml2, hmt⟩ := hM.lim k hkn
                  refine ⟨_, rfl, _, rfl, M, _, _, .ref b, rfl, rfl, .of M7.at_, atI_nat (by rw [List.getElem?_map, hb1]; rfl), b, rfl, ⟨_, .of (s7 _ _ hbr)⟩, ?_⟩
                  refine for_list (xs := (mv k).map V.int) (fun i8 σ H8 => ∃ (h : Bool) (v10 : Option V), h = hit goods kp p.1 ((mv k).take i8) ∧ σ = [some (.ref M), some (.ref G), some (.ref S), some (.ref o3), some (.int (0 + (i : Int))), some (.ref r), some (.int (0 + (i6 : Int))), some (.bl (if h = true then true else p.2)), some (.int (0 + (j : Int))), some (.int (k : Int)), v10, v11] ∧ Same H H8 ∧ ArrB H8 o3 n kp ∧
                    ArrB H8 r n (if h = true then (fun t => if t = k then true else p.1 t) else p.1)) ⟨false, v10, rfl, rfl, s7, k7, e7⟩ (fun i8 σ H8 _ ⟨_, _, _, _, z, _⟩ => .of (z _ _ hbr)) ?_ ?_
                  · clear s7 k7 e7 M7 stay
                    rintro i8 x σ H8 hx ⟨h, v10, hh, rfl, s8, k8, e8⟩
                    obtain ⟨z, hz, rfl⟩ : ∃ z, (mv k)[i8]? = some z ∧ x = V.int z := by
                      rw [List.getElem?_map] at hx
                      cases e : (mv k)[i8]? with
                      | none => rw [e] at hx; cases hx
                      | some z => rw [e] at hx; exact ⟨z, rfl, (Option.some.inj hx).symm⟩
                    obtain ⟨z0, z1⟩ := hmt z (List.mem_of_getElem? hz)
                    have hnx : hit goods kp p.1 ((mv k).take (i8 + 1)) = (h || (kp z.toNat && (goods z.toNat || p.1 z.toNat))) := by
                      rw [hh, List.take_add_one, hz]
                      unfold hit
                      rw [List.any_append]
                      simp
                    have no : (h = false → (kp z.toNat && (goods z.toNat || p.1 z.toNat)) = false) → ∃ (h' : Bool) (v10' : Option V), h' = hit goods kp p.1 ((mv k).take (i8 + 1)) ∧ [some (V.ref M), some (.ref G), some (.ref S), some (.ref o3), some (.int (0 + (i : Int))), some (.ref r), some (.int (0 + (i6 : Int))), some (.bl (if h = true then true else p.2)), some (.int (0 + (j : Int))), some (.int (k : Int)), some (.int z), v11] = [some (.ref M), some (.ref G), some (.ref S), some (.ref o3), some (.int (0 + (i : Int))), some (.ref r), some (.int (0 + (i6 : Int))), some (.bl (if h' = true then true else p.2)), some (.int (0 + (j : Int))), some (.int (k : Int)), v10', v11] ∧ Same H H8 ∧ ArrB H8 o3 n kp ∧
                        ArrB H8 r n (if h' = true then (fun t => if t = k then true else p.1 t) else p.1) := fun a => by
                      refine ⟨h, _, ?_, rfl, s8, k8, e8⟩
                      rw [hnx]
                      cases h with
                      | true => rfl
                      | false => rw [a rfl]; rfl
                    have fe : (fun t => if t = k then true else (if h = true then (fun t => if t = k then true else p.1 t) else p.1) t) = fun t => if t = k then true else p.1 t := by
                      funext t
                      by_cases y : t = k
                      · rw [if_pos y, if_pos y]
                      · rw [if_neg y, if_neg y]
                        cases h with
                        | true => show (if t = k then true else p.1 t) = _; rw [if_neg y]
                        | false => rfl
                    have e9 : ArrB (upd H8 r (.lst (((List.range n).map fun t => V.bl ((if h = true then (fun t => if t = k then true else p.1 t) else p.1) t)).set k (.bl true)))) r n fun t => if t = k then true else p.1 t := by
                      rw [arrb_set, arrb_congr (r := fun t => if t = k then true else p.1 t) (fun t _ => congrFun fe t)]
                      exact upd_same
                    have k9 : ArrB (upd H8 r (.lst (((List.range n).map fun t => V.bl ((if h = true then (fun t => if t = k then true else p.1 t) else p.1) t)).set k (.bl true)))) o3 n kp := by
                      unfold ArrB
                      rw [upd_ne rk]
                      exact k8
                    have s9 : Same H (upd H8 r (.lst (((List.range n).map fun t => V.bl ((if h = true then (fun t => if t = k then true else p.1 t) else p.1) t)).set k (.bl true)))) := fun c u hc => by
                      rw [upd_ne (ne_of_none hc rH)]
                      exact s8 _ _ hc
                    have ixk : ixN ((List.range n).map fun t => V.bl ((if h = true then (fun t => if t = k then true else p.1 t) else p.1) t)).length (k : Int) = some k := by
                      rw [arrb_len]
                      exact ixN_at hkn
                    refine ⟨_, rfl, _, rfl, o3, _, _, _, rfl, rfl, .of k8, bl_at z0 z1, _, rfl, ite2 (fun a1 => ?_) (fun a1 => ?_)⟩
                    · refine ⟨_, rfl, _, rfl, G, _, _, _, rfl, rfl, .of (s8 _ _ hG), bl_at z0 z1, _, rfl, ite2 (fun a2 => ?_) (fun a2 => ?_)⟩
                      · refine ⟨_, rfl, _, rfl, r, _, _, k, rfl, rfl, e8, ixk, ?_⟩
                        exact ⟨true, _, by rw [hnx, a1, a2]; cases h <;> rfl, rfl, s9, k9, e9⟩
                      · refine ⟨_, rfl, _, rfl, r, _, _, _, rfl, rfl, .of e8, bl_at z0 z1, _, rfl, ite2 (fun a3 => ?_) (fun a3 => ?_)⟩
                        · refine ⟨_, rfl, _, rfl, r, _, _, k, rfl, rfl, e8, ixk, ?_⟩
                          refine ⟨true, _, ?_, rfl, s9, k9, e9⟩
                          rw [hnx, a1]
                          cases h with
                          | true => rfl
                          | false =>
                            have a4 : p.1 z.toNat = true := a3
                            rw [a4]
                            cases goods z.toNat <;> rfl
                        · refine no fun hf => ?_
                          subst hf
                          have a4 : p.1 z.toNat = false := Bool.eq_false_iff.mpr a3
                          rw [a4, Bool.eq_false_iff.mpr a2]
                          cases kp z.toNat <;> rfl
                    · refine no fun _ => ?_
                      rw [Bool.eq_false_iff.mpr a1]
                      rfl
                  · clear s7 k7 e7 M7 stay
                    rintro σ H8 ⟨h, v10, hh, rfl, s8, k8, e8⟩
                    rw [List.length_map, List.take_length] at hh
                    rw [hstp, ← hh]
                    cases h with
                    | true => exact ⟨_, _, _, rfl, s8, k8, e8⟩
                    | false => exact ⟨_, _, _, rfl, s8, k8, e8⟩
                · exact stay fun z => c2 (Bool.and_eq_true_iff.mp z).2
              · exact stay fun z => c1 (Bool.and_eq_true_iff.mp z).1
            · clear s6 k6 e6
              rintro σ H7 ⟨v8, v9, v10, rfl, s7, k7, e7⟩
              have hst : inn mv goods n kp (n + 1 - i6) rc = if (pas mv goods n kp n (rc, false)).2 = true then inn mv goods n kp (n + 1 - (i6 + 1)) (pas mv goods n kp n (rc, false)).1 else (pas mv goods n kp n (rc, false)).1 := by
                rw [show n + 1 - i6 = (n + 1 - (i6 + 1)) + 1 by omega]
                rfl
              rw [hst] at hinn
              refine ⟨_, rfl, _, rfl, ite2 (fun c => ?_) (fun c => ?_)⟩
              · have c' : ¬ (pas mv goods n kp n (rc, false)).2 = true := fun z => by rw [z] at c; cases c
                rw [if_neg c'] at hinn
                exact ⟨_, _, _, _, _, rfl, s7, k7, by rw [← hinn]; exact e7⟩
              · have c' : (pas mv goods n kp n (rc, false)).2 = true := by
                  cases y : (pas mv goods n kp n (rc, false)).2 with
                  | true => rfl
                  | false => rw [y] at c; exact absurd rfl c
                rw [if_pos c'] at hinn
                exact ⟨_, _, _, _, _, _, rfl, s7, k7, e7, hinn⟩
          · rintro σ H6 ⟨rc, v6, v7, v8, v9, v10, rfl, s6, k6, e6, hinn⟩
            rw [show n + 1 - ((n : Int) + 1).toNat = 0 by omega] at hinn
            exact ⟨v6, v7, v8, v9, v10, rfl, s6, k6, by rw [← hinn]; exact e6⟩
        · clear s05 k5 e5
          rintro σ H6 ⟨v6, v7, v8, v9, v10, rfl, s6, k6, e6⟩
          have hstep : out mv goods n (n + 1 - i) kp = if eqB n (inn mv goods n kp (n + 1) fun _ => false) kp = true then kp else out mv goods n (n + 1 - (i + 1)) (inn mv goods n kp (n + 1) fun _ => false) := by
            rw [show n + 1 - i = (n + 1 - (i + 1)) + 1 by omega]
            rfl
          refine ⟨_, rfl, _, rfl, _, _, dpb e6, dpb k6, shb, shb, _, rfl, ?_⟩
          rw [eqB_data]
          rw [hstep] at hout
          refine ite2 (fun c => ?_) (fun c => ?_)
          · rw [if_pos c] at hout
            exact ⟨o3, _, _, _, _, _, _, _, _, rfl, s6, by rw [← hout]; exact k6⟩
          · rw [if_neg c] at hout
            exact ⟨_, rfl, r, _, _, _, _, _, _, _, _, _, rfl, s6, rH, e6, hout⟩
      · rintro σ H3 ⟨o3, kp, v4, v5, v6, v7, v8, v9, v10, v11, rfl, s3, hk0, e3, hout⟩
        rw [show n + 1 - ((n : Int) + 1).toNat = 0 by omega] at hout
        exact ⟨o3, _, _, _, _, _, _, _, _, rfl, s3, by rw [← hout]; exact e3⟩
    · clear s2 e2 ho ho0 s1 n1
      rintro σ H3 ⟨o3, v4, v5, v6, v7, v8, v9, v10, v11, rfl, s3, e3⟩
      have hS3 := s3 _ _ hS
      refine ⟨_, rfl, S, rfl, ⟨_, .of hS3⟩, for_list (xs := ss.map V.int) (fun i σ H4 => ∃ v11 : Option V, σ = [some (.ref M), some (.ref G), some (.ref S), some (.ref o3), v4, v5, v6, v7, v8, v9, v10, v11] ∧ H4 = H3 ∧ ∀ j x, j < i → ss[j]? = some x → out mv goods n (n + 1) (fun _ => true) x.toNat = false)
        ⟨v11, rfl, rfl, fun j x hj => absurd hj (Nat.not_lt_zero j)⟩ (fun i σ H4 _ ⟨_, _, z, _⟩ => by rw [z]; exact .of hS3) ?_ ?_⟩
      · rintro i x σ H4 hx ⟨v11, rfl, rfl, hno⟩
        obtain ⟨z, hz, rfl⟩ : ∃ z, ss[i]? = some z ∧ x = V.int z := by
          rw [List.getElem?_map] at hx
          cases e : ss[i]? with
          | none => rw [e] at hx; cases hx
          | some z => rw [e] at hx; exact ⟨z, rfl, (Option.some.inj hx).symm⟩
        obtain ⟨z0, z1⟩ := hss z (List.mem_of_getElem? hz)
        refine ⟨_, rfl, _, rfl, o3, _, _, _, rfl, rfl, .of e3, bl_at z0 z1, _, rfl, ?_⟩
        refine ite2 (fun c => ?_) (fun c => ?_)
        · have e : lives mv goods n ss = true := List.any_eq_true.mpr ⟨z, List.mem_of_getElem? hz, c⟩
          have q2 := q H4 s3
          rw [e] at q2
          exact q2
        · refine ⟨_, rfl, rfl, fun j x hj hjx => ?_⟩
          rcases Nat.lt_or_ge j i with y | y
          · exact hno j x y hjx
          · have ej : j = i := by omega
            rw [ej, hz] at hjx
            cases hjx
            exact Bool.eq_false_iff.mpr c
      · rintro σ H4 ⟨v11, rfl, rfl, hno⟩
        have e : lives mv goods n ss = false := by
          unfold lives
          rw [Bool.eq_false_iff, ne_eq, List.any_eq_true]
          rintro ⟨z, hz, c⟩
          obtain ⟨i, hi, hiz⟩ := List.mem_iff_getElem.mp hz
          rw [hno i z (by rw [List.length_map]; exact hi) (by rw [List.getElem?_eq_getElem hi, hiz])] at c
          cases c
        have q2 := q H4 s3
        rw [e] at q2
        exact q2
def SqI (K : PySem.W.Frag) (H : Hp) (a : Addr) (ns : List Int) : Prop := SqL K H a (ns.map V.int) ∨ SqT K H a (ns.map V.int)
def Sq2 (K : PySem.W.Frag) (H : Hp) (v : V) (row : List (List Int)) : Prop := ∃ (a : Addr) (xs : List V), v = .ref a ∧ (SqL K H a xs ∨ SqT K H a xs) ∧ xs.length = row.length ∧ ∀ (j : Nat) (ts : List Int), row[j]? = some ts → ∃ b, xs[j]? = some (V.ref b) ∧ SqI K H b ts
def Sq3 (K : PySem.W.Frag) (H : Hp) (a : Addr) (rows : List (List (List Int))) : Prop := ∃ xs : List V, (SqL K H a xs ∨ SqT K H a xs) ∧ xs.length = rows.length ∧ ∀ (i : Nat) (row : List (List Int)), rows[i]? = some row → ∃ v : V, xs[i]? = some v ∧ Sq2 K H v row
theorem sq_same' {K : PySem.W.Frag} {H H' : Hp} {a : Addr} {xs : List V} (s : Same H H') (h : SqL K H a xs ∨ SqT K H a xs) : SqL K H' a xs ∨ SqT K H' a xs := h.elim (fun h => .inl (s.seq h)) (fun h => .inr (sqt_same s h))
theorem rix {K : PySem.W.Frag} {H : Hp} {a : Addr} {xs : List V} {i : Int} {v : V} {Q : VK} (h : SqL K H a xs ∨ SqT K H a xs) (e : atI xs i = some v) (q : Q v H) : rIx K (.ref a) (.int i) H Q :=
  h.elim (fun h => .inl ⟨a, xs, i, v, rfl, rfl, h, e, q⟩) (fun h => .inr (.inl ⟨a, xs, i, v, rfl, rfl, h, e, q⟩))
section
variable (rows : List (List (List Int))) (acc h l : List Int)
def aft (j : Nat) : Int := if j + 1 = h.length + l.length then (h.length : Int) else (j : Int) + 1
def ent (k : Nat) : List Int := (rows.getD (k / (h.length + l.length)) []).getD (((h ++ l).getD (k % (h.length + l.length)) 0).toNat) []
def mvF (k : Nat) : List Int := (ent rows h l k).map fun t => t * ((h.length + l.length : Nat) : Int) + aft h l (k % (h.length + l.length))
def goF (k : Nat) : Bool := decide (((k / (h.length + l.length) : Nat) : Int) ∈ acc)
end
def accV (rows : List (List (List Int))) (ini acc h l : List Int) : Bool := lives (mvF rows h l) (goF acc h l) (rows.length * (h.length + l.length)) (ini.map fun s => s * ((h.length + l.length : Nat) : Int))
def spAcc (K : PySem.W.Frag) : Sp := fun vs H Q _ => ∃ (R I A p : Addr) (rows : List (List (List Int))) (ini acc h l : List Int) (wd : Int), vs = [.ref R, .ref I, .ref A, .ref p] ∧ Sq3 K H R rows ∧ SqI K H I ini ∧ SqI K H A acc ∧ Las H p h l ∧ l ≠ [] ∧ h.length ≤ 100 ∧ l.length ≤ 100 ∧ rows.length ≤ 100 ∧ ini.length ≤ 1000 ∧
  (∀ s, s ∈ ini → 0 ≤ s ∧ s < (rows.length : Int)) ∧ (∀ z, z ∈ h ++ l → 0 ≤ z ∧ z < wd) ∧ (∀ row, row ∈ rows → (row.length : Int) = wd ∧ ∀ ts, ts ∈ row → ts.length ≤ 100000 ∧ ∀ t, t ∈ ts → 0 ≤ t ∧ t < (rows.length : Int)) ∧
  ∀ H', Same H H' → Q (.bl (accV rows ini acc h l)) H'
theorem aft_lim {h l : List Int} (hne : l ≠ []) (j : Nat) (hj : j < h.length + l.length) : 0 ≤ aft h l j ∧ aft h l j < ((h.length + l.length : Nat) : Int) := by
  have := List.length_pos_iff.mpr hne
  unfold aft
  split <;> omega
theorem mul_lim {t n : Int} {s : Nat} {a : Int} (h0 : 0 ≤ t) (h1 : t < n) (a0 : 0 ≤ a) (a1 : a < (s : Int)) : 0 ≤ t * (s : Int) + a ∧ t * (s : Int) + a < n * (s : Int) := by
  have e1 : 0 ≤ t * (s : Int) := Int.mul_nonneg h0 (by omega)
  have e2 : (t + 1) * (s : Int) ≤ n * (s : Int) := Int.mul_le_mul_of_nonneg_right (by omega) (by omega)
  rw [Int.add_mul, Int.one_mul] at e2
  omega
theorem ent_lim {rows : List (List (List Int))} {h l : List Int} {wd : Int} (hw : ∀ z, z ∈ h ++ l → 0 ≤ z ∧ z < wd) (hr : ∀ row, row ∈ rows → (row.length : Int) = wd ∧ ∀ ts, ts ∈ row → ts.length ≤ 100000 ∧ ∀ t, t ∈ ts → 0 ≤ t ∧ t < (rows.length : Int)) (hs : 0 < h.length + l.length) {k : Nat} (hk : k < rows.length * (h.length + l.length)) :
    ∃ row z, rows[k / (h.length + l.length)]? = some row ∧ (h ++ l)[k % (h.length + l.length)]? = some z ∧ 0 ≤ z ∧ row[z.toNat]? = some (ent rows h l k) ∧ (ent rows h l k).length ≤ 100000 ∧ ∀ t, t ∈ ent rows h l k → 0 ≤ t ∧ t < (rows.length : Int) := by
  have h1 : k / (h.length + l.length) < rows.length := Nat.div_lt_of_lt_mul (by rw [Nat.mul_comm]; exact hk)
  have h2 : k % (h.length + l.length) < (h ++ l).length := by rw [List.length_append]; exact Nat.mod_lt _ hs
  have e1 : rows[k / (h.length + l.length)]? = some rows[k / (h.length + l.length)] := List.getElem?_eq_getElem h1
  have e2 : (h ++ l)[k % (h.length + l.length)]? = some (h ++ l)[k % (h.length + l.length)] := List.getElem?_eq_getElem h2
  obtain ⟨z0, z1⟩ := hw _ (List.mem_of_getElem? e2)
  obtain ⟨r1, r2⟩ := hr _ (List.mem_of_getElem? e1)
  have h3 : ((h ++ l)[k % (h.length + l.length)]).toNat < (rows[k / (h.length + l.length)]).length := by omega
  have e3 := List.getElem?_eq_getElem h3
  have ee : ent rows h l k = (rows[k / (h.length + l.length)])[((h ++ l)[k % (h.length + l.length)]).toNat] := by
    unfold ent
    rw [List.getD_eq_getElem?_getD, List.getD_eq_getElem?_getD, List.getD_eq_getElem?_getD, e1, e2, Option.getD_some, Option.getD_some, e3, Option.getD_some]
  rw [ee]
  exact ⟨_, _, e1, e2, z0, e3, r2 _ (List.mem_of_getElem? e3)⟩
theorem in_ints (k : Int) : ∀ ns : List Int, inV (.int k) (ns.map V.int) = decide (k ∈ ns)
  | [] => by simp [inV]
  | n :: ns => by
    have ih := in_ints k ns
    unfold inV at ih ⊢
    rw [List.map_cons, List.any_cons, ih]
    show ((n == k) || _) = _
    by_cases c : n = k
    · subst c
      simp
    · have c2 : k ≠ n := fun z => c z.symm
      simp [c, c2]
theorem flat_ints : ∀ ns : List Int, (ns.map V.int).all flatV = true
  | [] => rfl
  | _ :: ns => by
    rw [List.map_cons, List.all_cons, flat_ints ns]
    rfl
theorem cal_acc (T : Txt K mg) : C8.Cal P w K mg base 2 "_law_accepts" (spAcc K) [] := by
  have C_law_lives : C8.Cal P w K mg base 1 "_law_lives" spLives [] := cal_lives T
  obtain ⟨f, fd, F, hm, hb⟩ := T.h_law_accepts
  refine ⟨f, fd, _, [], F.ok sc_law_accepts (fun vs H Q E h => ?_) (fun cdv A outer s H vs Q E hr h => ?_), hm, F.kp, hb, .nil⟩
  · obtain ⟨R, I, A, p, rows, ini, acc, h, l, wd, rfl, _⟩ := h
    rfl
  · obtain ⟨R, I, A, p, rows, ini, acc, h, l, wd, rfl, hR, hI, hA, hlas, hne, hh, hl, hrl, hil, hini, hw, hrs, q⟩ := h
    refine ⟨_, (pss_cons
      (ps_set (i := 4) sc_law_accepts.nd rfl (Or.inl rfl) (pe_op op_cat (pe_callTy (call_list_ofK (K := K) rfl) (by rfl) T.z_list (by decide +kernel) (pa_cons (pe_ix (ix_tupK (K := K) rfl) (pv 3) pe_int (fun _ _ => rfl)) pa_nil)) (pe_callTy (call_list_ofK (K := K) rfl) (by rfl) T.z_list (by decide +kernel) (pa_cons (pe_ix (ix_tupK (K := K) rfl) (pv 3) pe_int (fun _ _ => rfl)) pa_nil))))
      (pss_cons
      (ps_set (i := 5) sc_law_accepts.nd rfl (Or.inr rfl) (pe_callB (call_lenK (K := K) rfl) (by rfl) T.z_len PySem.boot_len (pa_cons (pv 4) pa_nil)))
      (pss_cons
      (ps_set (i := 6) sc_law_accepts.nd rfl (Or.inl rfl) (pe_lst pa_nil))
      (pss_cons
      (ps_set (i := 7) sc_law_accepts.nd rfl (Or.inl rfl) (pe_lst pa_nil))
      (pss_cons
      (ps_for PassesOwn.never rfl (pi_range1 (by rfl) T.z_range (pa_cons (pe_callB (call_lenK (K := K) rfl) (by rfl) T.z_len PySem.boot_len (pa_cons (pv 0) pa_nil)) pa_nil)) (pg_name (i := 8) sc_law_accepts.nd rfl (.inl rfl)) (pss_one
      (ps_for PassesOwn.never rfl (pi_range1 (by rfl) T.z_range (pa_cons (pv 5) pa_nil)) (pg_name (i := 9) sc_law_accepts.nd rfl (.inl rfl)) (pss_cons
      (ps_set (i := 10) sc_law_accepts.nd rfl (Or.inr rfl) (pe_op op_add (pv 9) pe_int))
      (C8.pss_cut
      (ps_if (pt_cmpR op_eq (pv 10) (pv 5) (nomark _)) (pss_one
      (ps_set (i := 10) sc_law_accepts.nd rfl (Or.inr rfl) (pe_callB (call_lenK (K := K) rfl) (by rfl) T.z_len PySem.boot_len (pa_cons (pe_ix (ix_tupK (K := K) rfl) (pv 3) pe_int (fun _ _ => rfl)) pa_nil)))) pss_nil)
      (pss_cons
      (ps_expr (pe_bm PySem.F.plainAttrs_list PySem.F.slot_list_append PySem.F.type_list_append mt_append (pv 6) (pa_cons (pe_lc (own := [("target", 11)]) (g := gName 11) (tt := tYes) rfl sc_law_accepts.nd (pi_seq (K := K) rfl (pe_ix (ix_seqK (K := K) rfl) (pe_ix (ix_seqK (K := K) rfl) (pv 0) (pv 8) (fun _ _ => rfl)) (pe_ix (ix_listK (K := K) rfl) (pv 4) (pv 9) (fun _ _ => rfl)) (fun _ _ => rfl))) (blkOk_by (N := N_law_accepts) (sc := defScope s_law_accepts) (by decide +kernel)) (fun _ _ _ _ _ => (pg_name (i := 11) sc_law_accepts.nd rfl (Or.inl rfl))) (fun _ _ _ _ _ => pts_nil) (fun _ _ _ _ _ => (pe_op op_add (pe_op op_mul (pv 11) (pv 5)) (pv 10)))) pa_nil)))
      (pss_one
      (ps_expr (pe_bm PySem.F.plainAttrs_list PySem.F.slot_list_append PySem.F.type_list_append mt_append (pv 7) (pa_cons (pe_cmpR (op_inK (K := K) rfl) (pv 8) (pv 2) (by rfl)) pa_nil))))))))))
      (pss_one
      (ps_ret (C8.pe_c C_law_lives hr (by decide) (by rfl) (pa_cons (pv 6) (pa_cons (pv 7) (pa_cons (pe_lc (own := [("state", 8)]) (g := gName 8) (tt := tYes) rfl sc_law_accepts.nd (pi_seq (K := K) rfl (pv 1)) (blkOk_by (N := N_law_accepts) (sc := defScope s_law_accepts) (by decide +kernel)) (fun _ _ _ _ _ => (pg_name (i := 8) sc_law_accepts.nd rfl (Or.inl rfl))) (fun _ _ _ _ _ => pts_nil) (fun _ _ _ _ _ => (pe_op op_mul (pv 8) (pv 5)))) pa_nil))))))))))), ?_⟩
    obtain ⟨xs, hRx, hxl, hxs⟩ := hR
    obtain ⟨a1, b1, e1, e2, e3⟩ := hlas
    have hL : 0 < l.length := List.length_pos_iff.mpr hne
    refine ⟨_, rfl, p, _, _, _, rfl, rfl, .of e1, rfl, a1, _, rfl, .inr (.of e2), fun p1 n1 => ?_⟩
    have s1 := same_new (o := .lst (h.map V.int)) n1
    refine ⟨_, rfl, p, _, _, _, rfl, rfl, .of (s1 _ _ e1), rfl, b1, _, rfl, .inr (.of (s1 _ _ e3)), fun p2 n2 => ?_⟩
    have s2 := same_new (o := .lst (l.map V.int)) n2
    refine ⟨p1, p2, _, _, rfl, rfl, s2 _ _ upd_same, upd_same, by rw [List.length_map, List.length_map]; exact Nat.le_trans (show h.length + l.length ≤ 200 by omega) (by decide), fun p3 n3 => ?_⟩
    rw [← List.map_append]
    have s3 := same_new (o := .lst ((h ++ l).map V.int)) n3
    have s03 := (s1.trans s2).trans s3
    have ep3 := upd_same (H := upd (upd H p1 (.lst (h.map V.int))) p2 (.lst (l.map V.int))) (a := p3) (o := .lst ((h ++ l).map V.int))
    have p30 : H p3 = none := (s1.trans s2).free n3
    generalize upd (upd (upd H p1 (.lst (h.map V.int))) p2 (.lst (l.map V.int))) p3 (.lst ((h ++ l).map V.int)) = H3 at s03 ep3 ⊢
    refine ⟨_, rfl, p3, _, rfl, .inl (.of ep3), ?_⟩
    rw [List.length_map, List.length_append]
    obtain ⟨sz, hsz⟩ : ∃ sz, h.length + l.length = sz := ⟨_, rfl⟩
    rw [hsz]
    have hsz0 : 0 < sz := by omega
    refine ⟨Nat.zero_le _, fun mo nmo => ⟨Nat.zero_le _, fun go ngo => ?_⟩⟩
    have s4 := same_new (o := .lst []) nmo
    have s5 := same_new (o := .lst []) ngo
    have s05 := (s03.trans s4).trans s5
    have mo0 : H mo = none := s03.free nmo
    have go0 : H go = none := (s03.trans s4).free ngo
    have emo := s5 _ _ (upd_same (H := H3) (a := mo) (o := .lst []))
    have ego := upd_same (H := upd H3 mo (.lst [])) (a := go) (o := .lst [])
    have ep3' := (s4.trans s5) _ _ ep3
    have mg' : mo ≠ go := fun z => by
      rw [← z, upd_same] at ngo
      cases ngo
    have p3m : p3 ≠ mo := fun z => by
      rw [← z, ep3] at nmo
      cases nmo
    have p3g : p3 ≠ go := fun z => by
      have := s4 _ _ ep3
      rw [z, ngo] at this
      cases this
    generalize upd (upd H3 mo (.lst [])) go (.lst []) = H5 at s05 emo ego ep3' ⊢
    clear s1 s2 s3 s4 s5 s03 ep3 n1 n2 n3 nmo ngo
    have St : ∀ m : Nat, Hp → Prop := fun m H' => Same H H' ∧ H' p3 = some (.lst ((h ++ l).map V.int)) ∧ ∃ as : List Addr, H' mo = some (.lst (as.map V.ref)) ∧ as.length = m ∧ (∀ (k : Nat) (a : Addr), as[k]? = some a → a ≠ mo ∧ a ≠ go ∧ H' a = some (.lst ((mvF rows h l k).map V.int))) ∧ ArrB H' go m (goF acc h l)
    clear St
    obtain ⟨St, hSt⟩ : ∃ St : Nat → Hp → Prop, St = fun m H' => Same H H' ∧ H' p3 = some (.lst ((h ++ l).map V.int)) ∧ ∃ as : List Addr, H' mo = some (.lst (as.map V.ref)) ∧ as.length = m ∧ (∀ (k : Nat) (a : Addr), as[k]? = some a → a ≠ mo ∧ a ≠ go ∧ H' a = some (.lst ((mvF rows h l k).map V.int))) ∧ ArrB H' go m (goF acc h l) := ⟨_, rfl⟩
    have st0 : St 0 H5 := by
      rw [hSt]
      exact ⟨s05, ep3', [], emo, rfl, (fun k a e => by cases e), ego⟩
    have lr : (((xs.length : Nat) : Int)).toNat = rows.length := by omega
    refine ⟨_, rfl, R, _, rfl, sq_same' s05 hRx, _, rfl, by omega, by omega, ?_⟩
    rw [lr]
    refine for_range (lo := 0) (n := rows.length) (fun i σ H6 => ∃ (v8 v9 v10 v11 : Option V), σ = [some (.ref R), some (.ref I), some (.ref A), some (.ref p), some (.ref p3), some (.int (sz : Nat)), some (.ref mo), some (.ref go), v8, v9, v10, v11] ∧ St (i * sz) H6) ⟨none, none, none, none, rfl, by rw [Nat.zero_mul]; exact st0⟩ ?_ ?_
    · clear st0 s05 emo ego ep3'
      rintro i σ H6 hi ⟨v8, v9, v10, v11, rfl, st⟩
      refine ⟨_, rfl, _, rfl, by omega, by omega, ?_⟩
      rw [Int.toNat_natCast]
      refine for_range (lo := 0) (n := sz) (fun j σ H6 => ∃ (v9 v10 v11 : Option V), σ = [some (.ref R), some (.ref I), some (.ref A), some (.ref p), some (.ref p3), some (.int (sz : Nat)), some (.ref mo), some (.ref go), some (.int (0 + (i : Int))), v9, v10, v11] ∧ St (i * sz + j) H6) ⟨_, _, _, rfl, st⟩ ?_ ?_
      · clear st
        rintro j σ H6 hj ⟨v9, v10, v11, rfl, st⟩
        have hk : i * sz + j < rows.length * sz := by
          have := Nat.mul_le_mul_right sz (show i + 1 ≤ rows.length by omega)
          rw [Nat.add_mul, Nat.one_mul] at this
          omega
        have hdv : (i * sz + j) / sz = i := by rw [Nat.mul_comm, Nat.mul_add_div hsz0, Nat.div_eq_of_lt hj, Nat.add_zero]
        have hmd : (i * sz + j) % sz = j := by rw [Nat.mul_comm, Nat.mul_add_mod, Nat.mod_eq_of_lt hj]
        have el := ent_lim hw hrs (by omega) (k := i * sz + j) (by rw [hsz]; exact hk)
        rw [hsz, hdv, hmd] at el
        obtain ⟨row, z, hrow, hz, z0, hent, elen, elim⟩ := el
        rw [hSt] at st ⊢
        obtain ⟨s6, ep3, as, emo, hal, hak, ego⟩ := st
        refine ⟨_, rfl, _, _, rfl, rfl, ?_⟩
        refine ⟨fun σ H7 => σ = [some (.ref R), some (.ref I), some (.ref A), some (.ref p), some (.ref p3), some (.int (sz : Nat)), some (.ref mo), some (.ref go), some (.int (0 + (i : Int))), some (.int (0 + (j : Int))), some (.int (aft h l j)), v11] ∧ H6 = H7, ?_, ?_⟩
        · refine ⟨_, rfl, _, rfl, rfl, _, rfl, ite_eq (fun c => ?_) (fun c => ?_)⟩
          · refine ⟨_, rfl, p, _, _, _, rfl, rfl, .of (s6 _ _ e1), rfl, a1, _, rfl, .inr (.of (s6 _ _ e2)), ?_, rfl⟩
            have e : aft h l j = (h.length : Int) := by
              unfold aft
              rw [if_pos (by omega)]
            rw [e, List.length_map]
            rfl
          · refine ⟨?_, rfl⟩
            have e : aft h l j = 0 + (j : Int) + 1 := by
              unfold aft
              rw [if_neg (by omega)]
              omega
            rw [e]
            rfl
        · rintro σ H7 ⟨rfl, rfl⟩
          obtain ⟨vr, hrow', a2, xs2, rfl, hrx, hx2l, hx2⟩ := hxs i row hrow
          obtain ⟨b, hbx, hbi⟩ := hx2 _ _ hent
          have hjm : as.length < sizeLine := by
            rw [hal]
            have h1 : rows.length * sz ≤ 100 * 200 := Nat.mul_le_mul hrl (by omega)
            exact Nat.lt_of_lt_of_le (show i * sz + j < 100 * 200 + 1 by omega) (by decide)
          rcases hbi with hb0 | hb0
          · refine ⟨_, rfl, .inl ⟨rfl, _, .of emo⟩, ?_⟩
            refine .inl ⟨_, rfl, _, rfl, rix (sq_same' s6 hRx) (by rw [Int.zero_add]; exact atI_nat hrow') ⟨_, rfl, _, rfl, p3, _, _, .int z, rfl, rfl, .of ep3, (by rw [Int.zero_add]; exact atI_nat (by rw [List.getElem?_map, hz]; rfl)), rix (sq_same' s6 hrx) (v := .ref b) (by rw [show z = ((z.toNat : Nat) : Int) by omega]; exact atI_nat hbx) ?_⟩⟩
            refine ⟨b, rfl, ⟨_, s6.seq hb0⟩, fun D hD => lc_list (K := K) (a := b) (xs := (ent rows h l (i * sz + j)).map V.int) (fun q H7 => Same H6 H7 ∧ H7 D = some (.lst ((((ent rows h l (i * sz + j)).take q).map fun t => t * ((sz : Nat) : Int) + aft h l j).map V.int))) ⟨same_new hD, upd_same⟩ (fun q H7 _ ⟨s7, _⟩ => (s6.trans s7).seq hb0) ?_ ?_⟩
            · rintro q y H7 hy ⟨s7, e7⟩
              obtain ⟨t, ht, rfl⟩ : ∃ t, (ent rows h l (i * sz + j))[q]? = some t ∧ y = V.int t := by
                rw [List.getElem?_map] at hy
                cases e : (ent rows h l (i * sz + j))[q]? with
                | none => rw [e] at hy; cases hy
                | some t => rw [e] at hy; exact ⟨t, rfl, (Option.some.inj hy).symm⟩
              have hql := (List.getElem?_eq_some_iff.mp ht).1
              have hcm : -(2 ^ 64) < ((sz : Nat) : Int) ∧ ((sz : Nat) : Int) < 2 ^ 64 := by
                have : sz ≤ 200 := by omega
                constructor <;> omega
              refine ⟨rfl, _, rfl, _, rfl, _, _, rfl, rfl, .inr hcm, _, rfl, _, _, rfl, rfl, _, e7, by rw [List.length_map, List.length_map, List.length_take]; exact Nat.lt_of_le_of_lt (show min q (ent rows h l (i * sz + j)).length ≤ 100000 by omega) (by decide), fun c u hc => ?_, ?_⟩
              · rw [upd_ne (ne_of_none hc hD)]
                exact s7 _ _ hc
              · rw [upd_same, List.take_add_one, ht, Option.toList_some, List.map_append, List.map_append]
                rfl
            · rintro H7 ⟨s7, e7⟩
              rw [List.length_map, List.take_length] at e7
              have Dm : D ≠ mo := fun z => by rw [z, emo] at hD; cases hD
              have Dg : D ≠ go := fun z => by
                unfold ArrB at ego
                rw [z, ego] at hD
                cases hD
              have Dp : p3 ≠ D := fun z => by rw [← z, ep3] at hD; cases hD
              have e7' : H7 D = some (.lst ((mvF rows h l (i * sz + j)).map V.int)) := by
                rw [e7]
                unfold mvF
                rw [hsz, hmd]
              have eg7 := s7 _ _ (show H6 go = _ from ego)
              refine ⟨mo, _, _, rfl, rfl, s7 _ _ emo, by rw [List.length_map]; exact hjm, ?_⟩
              have k8 : Kp mo H7 (upd H7 mo (.lst (as.map V.ref ++ [.ref D]))) := Kp.own
              have eg8 := k8 _ _ mg'.symm eg7
              refine ⟨_, rfl, .inl ⟨rfl, _, .of eg8⟩, _, rfl, _, rfl, A, _, rfl, sq_same' (fun c u hc => k8 _ _ (ne_of_none hc mo0) (s7 _ _ (s6 _ _ hc))) hA, rfl, flat_ints acc, go, _, _, rfl, rfl, eg8, by rw [arrb_len, ← hal]; exact hjm, ?_⟩
              have k9 : Kp go (upd H7 mo (.lst (as.map V.ref ++ [.ref D]))) (upd (upd H7 mo (.lst (as.map V.ref ++ [.ref D]))) go (.lst (((List.range (i * sz + j)).map fun t => V.bl (goF acc h l t)) ++ [.bl (inV (.int (0 + (i : Int))) (acc.map V.int))]))) := Kp.own
              refine ⟨_, _, _, rfl, fun c u hc => k9 _ _ (ne_of_none hc go0) (k8 _ _ (ne_of_none hc mo0) (s7 _ _ (s6 _ _ hc))), k9 _ _ p3g (k8 _ _ p3m (s7 _ _ ep3)), as ++ [D], ?_, by rw [List.length_append, hal]; rfl, fun k a hka => ?_, ?_⟩
              · rw [List.map_append]
                exact k9 _ _ mg' upd_same
              · rcases Nat.lt_or_ge k as.length with y | y
                · rw [List.getElem?_append_left y] at hka
                  obtain ⟨a3, a4, a5⟩ := hak k a hka
                  exact ⟨a3, a4, k9 _ _ a4 (k8 _ _ a3 (s7 _ _ a5))⟩
                · rw [List.getElem?_append_right y] at hka
                  have y2 : k - as.length = 0 := by
                    cases e : k - as.length with
                    | zero => rfl
                    | succ m => rw [e] at hka; cases hka
                  rw [y2] at hka
                  cases hka
                  have y3 : k = i * sz + j := by omega
                  rw [y3]
                  exact ⟨Dm, Dg, k9 _ _ Dg (k8 _ _ Dm e7')⟩
              · unfold ArrB
                have er : List.range (i * sz + (j + 1)) = List.range (i * sz + j) ++ [i * sz + j] := List.range_succ
                rw [upd_same, er, List.map_append]
                show some (HO.lst (_ ++ [V.bl (inV (.int (0 + (i : Int))) (acc.map V.int))])) = _
                rw [in_ints]
                have eg : goF acc h l (i * sz + j) = decide ((0 + (i : Int)) ∈ acc) := by
                  unfold goF
                  rw [hsz, hdv, Int.zero_add]
                rw [← eg]
                rfl
          · refine ⟨_, rfl, .inl ⟨rfl, _, .of emo⟩, ?_⟩
            refine .inr ⟨_, rfl, _, rfl, rix (sq_same' s6 hRx) (by rw [Int.zero_add]; exact atI_nat hrow') ⟨_, rfl, _, rfl, p3, _, _, .int z, rfl, rfl, .of ep3, (by rw [Int.zero_add]; exact atI_nat (by rw [List.getElem?_map, hz]; rfl)), rix (sq_same' s6 hrx) (v := .ref b) (by rw [show z = ((z.toNat : Nat) : Int) by omega]; exact atI_nat hbx) ?_⟩⟩
            refine ⟨b, rfl, ⟨_, sqt_same s6 hb0⟩, fun D hD => lc_tup (K := K) (a := b) (xs := (ent rows h l (i * sz + j)).map V.int) (fun q H7 => Same H6 H7 ∧ H7 D = some (.lst ((((ent rows h l (i * sz + j)).take q).map fun t => t * ((sz : Nat) : Int) + aft h l j).map V.int))) ⟨same_new hD, upd_same⟩ (fun q H7 _ ⟨s7, _⟩ => sqt_same (s6.trans s7) hb0) ?_ ?_⟩
            · rintro q y H7 hy ⟨s7, e7⟩
              obtain ⟨t, ht, rfl⟩ : ∃ t, (ent rows h l (i * sz + j))[q]? = some t ∧ y = V.int t := by
                rw [List.getElem?_map] at hy
                cases e : (ent rows h l (i * sz + j))[q]? with
                | none => rw [e] at hy; cases hy
                | some t => rw [e] at hy; exact ⟨t, rfl, (Option.some.inj hy).symm⟩
              have hql := (List.getElem?_eq_some_iff.mp ht).1
              have hcm : -(2 ^ 64) < ((sz : Nat) : Int) ∧ ((sz : Nat) : Int) < 2 ^ 64 := by
                have : sz ≤ 200 := by omega
                constructor <;> omega
              refine ⟨rfl, _, rfl, _, rfl, _, _, rfl, rfl, .inr hcm, _, rfl, _, _, rfl, rfl, _, e7, by rw [List.length_map, List.length_map, List.length_take]; exact Nat.lt_of_le_of_lt (show min q (ent rows h l (i * sz + j)).length ≤ 100000 by omega) (by decide), fun c u hc => ?_, ?_⟩
              · rw [upd_ne (ne_of_none hc hD)]
                exact s7 _ _ hc
              · rw [upd_same, List.take_add_one, ht, Option.toList_some, List.map_append, List.map_append]
                rfl
            · rintro H7 ⟨s7, e7⟩
              rw [List.length_map, List.take_length] at e7
              have Dm : D ≠ mo := fun z => by rw [z, emo] at hD; cases hD
              have Dg : D ≠ go := fun z => by
                unfold ArrB at ego
                rw [z, ego] at hD
                cases hD
              have Dp : p3 ≠ D := fun z => by rw [← z, ep3] at hD; cases hD
              have e7' : H7 D = some (.lst ((mvF rows h l (i * sz + j)).map V.int)) := by
                rw [e7]
                unfold mvF
                rw [hsz, hmd]
              have eg7 := s7 _ _ (show H6 go = _ from ego)
              refine ⟨mo, _, _, rfl, rfl, s7 _ _ emo, by rw [List.length_map]; exact hjm, ?_⟩
              have k8 : Kp mo H7 (upd H7 mo (.lst (as.map V.ref ++ [.ref D]))) := Kp.own
              have eg8 := k8 _ _ mg'.symm eg7
              refine ⟨_, rfl, .inl ⟨rfl, _, .of eg8⟩, _, rfl, _, rfl, A, _, rfl, sq_same' (fun c u hc => k8 _ _ (ne_of_none hc mo0) (s7 _ _ (s6 _ _ hc))) hA, rfl, flat_ints acc, go, _, _, rfl, rfl, eg8, by rw [arrb_len, ← hal]; exact hjm, ?_⟩
              have k9 : Kp go (upd H7 mo (.lst (as.map V.ref ++ [.ref D]))) (upd (upd H7 mo (.lst (as.map V.ref ++ [.ref D]))) go (.lst (((List.range (i * sz + j)).map fun t => V.bl (goF acc h l t)) ++ [.bl (inV (.int (0 + (i : Int))) (acc.map V.int))]))) := Kp.own
              refine ⟨_, _, _, rfl, fun c u hc => k9 _ _ (ne_of_none hc go0) (k8 _ _ (ne_of_none hc mo0) (s7 _ _ (s6 _ _ hc))), k9 _ _ p3g (k8 _ _ p3m (s7 _ _ ep3)), as ++ [D], ?_, by rw [List.length_append, hal]; rfl, fun k a hka => ?_, ?_⟩
              · rw [List.map_append]
                exact k9 _ _ mg' upd_same
              · rcases Nat.lt_or_ge k as.length with y | y
                · rw [List.getElem?_append_left y] at hka
                  obtain ⟨a3, a4, a5⟩ := hak k a hka
                  exact ⟨a3, a4, k9 _ _ a4 (k8 _ _ a3 (s7 _ _ a5))⟩
                · rw [List.getElem?_append_right y] at hka
                  have y2 : k - as.length = 0 := by
                    cases e : k - as.length with
                    | zero => rfl
                    | succ m => rw [e] at hka; cases hka
                  rw [y2] at hka
                  cases hka
                  have y3 : k = i * sz + j := by omega
                  rw [y3]
                  exact ⟨Dm, Dg, k9 _ _ Dg (k8 _ _ Dm e7')⟩
              · unfold ArrB
                have er : List.range (i * sz + (j + 1)) = List.range (i * sz + j) ++ [i * sz + j] := List.range_succ
                rw [upd_same, er, List.map_append]
                show some (HO.lst (_ ++ [V.bl (inV (.int (0 + (i : Int))) (acc.map V.int))])) = _
                rw [in_ints]
                have eg : goF acc h l (i * sz + j) = decide ((0 + (i : Int)) ∈ acc) := by
                  unfold goF
                  rw [hsz, hdv, Int.zero_add]
                rw [← eg]
                rfl
      · rintro σ H6 ⟨v9, v10, v11, rfl, st⟩
        exact ⟨_, _, _, _, rfl, by rw [Nat.add_mul, Nat.one_mul]; exact st⟩
    · clear st0 s05 emo ego ep3'
      rintro σ H6 ⟨v8, v9, v10, v11, rfl, st⟩
      rw [hSt] at st
      obtain ⟨s6, ep3, as, emo, hal, hak, ego⟩ := st
      have hcm : -(2 ^ 64) < ((sz : Nat) : Int) ∧ ((sz : Nat) : Int) < 2 ^ 64 := by
        have : sz ≤ 200 := by omega
        constructor <;> omega
      have fin : ∀ (H7 : Hp) (D : Addr), Same H6 H7 → H7 D = some (.lst ((ini.map fun s => s * ((sz : Nat) : Int)).map V.int)) → spLives [.ref mo, .ref go, .ref D] H7 Q C8.E0 := fun H7 D s7 e7 => by
        refine ⟨mo, go, D, as, mvF rows h l, goF acc h l, rows.length * sz, ini.map fun s => s * ((sz : Nat) : Int), rfl, ⟨s7 _ _ emo, hal, fun k a e => s7 _ _ (hak k a e).2.2, fun k hk => ?_⟩, s7 _ _ (show H6 go = _ from ego), e7, ?_, fun s hs => ?_, fun H' s8 => ?_⟩
        · obtain ⟨row, z, _, _, _, _, el1, el2⟩ := ent_lim hw hrs (by omega) (k := k) (by rw [hsz]; exact hk)
          refine ⟨by unfold mvF; rw [List.length_map]; exact el1, fun t ht => ?_⟩
          unfold mvF at ht
          obtain ⟨t', ht', rfl⟩ := List.mem_map.mp ht
          obtain ⟨t0, t1⟩ := el2 t' ht'
          have := aft_lim (h := h) hne (k % (h.length + l.length)) (Nat.mod_lt _ (by omega))
          rw [hsz] at this ⊢
          rw [Int.natCast_mul]
          exact mul_lim t0 t1 this.1 this.2
        · have : rows.length * sz ≤ 100 * 200 := Nat.mul_le_mul hrl (by omega)
          omega
        · obtain ⟨s', hs', rfl⟩ := List.mem_map.mp hs
          obtain ⟨t0, t1⟩ := hini s' hs'
          have := mul_lim t0 t1 (a := 0) (s := sz) (by omega) (by omega)
          rw [Int.add_zero] at this
          rw [Int.natCast_mul]
          exact this
        · have e : accV rows ini acc h l = lives (mvF rows h l) (goF acc h l) (rows.length * sz) (ini.map fun s => s * ((sz : Nat) : Int)) := by
            unfold accV
            rw [hsz]
          rw [← e]
          exact q H' ((s6.trans s7).trans s8)
      rcases hI with hI | hI
      · refine ⟨_, rfl, _, rfl, ?_⟩
        refine .inl ⟨_, rfl, I, rfl, ⟨_, s6.seq hI⟩, fun D hD => lc_list (K := K) (a := I) (xs := ini.map V.int) (fun q H7 => Same H6 H7 ∧ H7 D = some (.lst (((ini.take q).map fun s => s * ((sz : Nat) : Int)).map V.int))) ⟨same_new hD, upd_same⟩ (fun q H7 _ ⟨s7, _⟩ => (s6.trans s7).seq hI) ?_ ?_⟩
        · rintro q y H7 hy ⟨s7, e7⟩
          obtain ⟨t, ht, rfl⟩ : ∃ t, ini[q]? = some t ∧ y = V.int t := by
            rw [List.getElem?_map] at hy
            cases e : ini[q]? with
            | none => rw [e] at hy; cases hy
            | some t => rw [e] at hy; exact ⟨t, rfl, (Option.some.inj hy).symm⟩
          have hql := (List.getElem?_eq_some_iff.mp ht).1
          refine ⟨rfl, _, rfl, _, rfl, _, _, rfl, rfl, .inr hcm, _, e7, by rw [List.length_map, List.length_map, List.length_take]; exact Nat.lt_of_le_of_lt (show min q ini.length ≤ 1000 by omega) (by decide), fun c u hc => ?_, ?_⟩
          · rw [upd_ne (ne_of_none hc hD)]
            exact s7 _ _ hc
          · rw [upd_same, List.take_add_one, ht, Option.toList_some, List.map_append, List.map_append]
            rfl
        · rintro H7 ⟨s7, e7⟩
          rw [List.length_map, List.take_length] at e7
          exact fin H7 D s7 e7
      · refine ⟨_, rfl, _, rfl, ?_⟩
        refine .inr ⟨_, rfl, I, rfl, ⟨_, sqt_same s6 hI⟩, fun D hD => lc_tup (K := K) (a := I) (xs := ini.map V.int) (fun q H7 => Same H6 H7 ∧ H7 D = some (.lst (((ini.take q).map fun s => s * ((sz : Nat) : Int)).map V.int))) ⟨same_new hD, upd_same⟩ (fun q H7 _ ⟨s7, _⟩ => sqt_same (s6.trans s7) hI) ?_ ?_⟩
        · rintro q y H7 hy ⟨s7, e7⟩
          obtain ⟨t, ht, rfl⟩ : ∃ t, ini[q]? = some t ∧ y = V.int t := by
            rw [List.getElem?_map] at hy
            cases e : ini[q]? with
            | none => rw [e] at hy; cases hy
            | some t => rw [e] at hy; exact ⟨t, rfl, (Option.some.inj hy).symm⟩
          have hql := (List.getElem?_eq_some_iff.mp ht).1
          refine ⟨rfl, _, rfl, _, rfl, _, _, rfl, rfl, .inr hcm, _, e7, by rw [List.length_map, List.length_map, List.length_take]; exact Nat.lt_of_le_of_lt (show min q ini.length ≤ 1000 by omega) (by decide), fun c u hc => ?_, ?_⟩
          · rw [upd_ne (ne_of_none hc hD)]
            exact s7 _ _ hc
          · rw [upd_same, List.take_add_one, ht, Option.toList_some, List.map_append, List.map_append]
            rfl
        · rintro H7 ⟨s7, e7⟩
          rw [List.length_map, List.take_length] at e7
          exact fin H7 D s7 e7
/-- a field, within a comprehension's block -/
theorem pe_fldK {X : Cx} {K : PySem.W.Frag} {e : Expr} {f : Str} {pos : Pos} {ta : TE} (h : X.K = K) (he : PE X e ta) (hb : attributeBase e f X.env (eval e X.env) = eval e X.env) : PE X (.Attribute e f pos) (tFld K ta f) := by
  subst h
  exact pe_fld he hb
/-- two clauses: the outer walk over a tuple -/
theorem lc2_tup {a : Addr} {xs : List V} {g g1 : TG} {tt tt1 : TT} {wi1 : TI} {te : TE} {vs vs1 : List Nat} {σ : L2.St} {H1 : Hp} {D : Addr} {Qd : Hp → Prop} (Pv : Nat → Hp → Prop) (h0 : Pv 0 (upd H1 D (.lst []))) (hl : ∀ i H, i ≤ xs.length → Pv i H → SqT K H a xs)
    (hs : ∀ i x H, xs[i]? = some x → Pv i H → g x (wipe σ vs) H fun σ2 H2 => wipe σ2 vs = wipe σ vs ∧ tt σ2 H2 fun b H3 => if b = true then wi1 σ2 H3 fun J1 H4 => ∃ W1 : Nat → Nat → Hp → Prop, (∃ m, W1 0 m H4) ∧ ∀ j k H, W1 j k H →
      (J1.stop j H ∧ Pv (i + 1) H) ∨ (J1.go j H ∧ ∃ Nx1 : Hp → Prop, (∀ H', Nx1 H' → ∃ k', k' < k ∧ W1 (j + 1) k' H') ∧ ∀ x H', J1.yld j H x H' → g1 x (wipe σ2 vs1) H' fun σ3 H5 => wipe σ3 vs1 = wipe σ2 vs1 ∧ tt1 σ3 H5 fun b H6 =>
        if b = true then te σ3 H6 fun y H7 => ∃ acc, H7 D = some (.lst acc) ∧ acc.length < sizeLine ∧ Nx1 (upd H7 D (.lst (acc ++ [y]))) else Nx1 H6) else Pv (i + 1) H3) (hd : ∀ H, Pv xs.length H → Qd H) :
    ∃ W : Nat → Nat → Hp → Prop, (∃ m, W 0 m (upd H1 D (.lst []))) ∧ ∀ i m H, W i m H →
      ((Itt K a).stop i H ∧ Qd H) ∨ ((Itt K a).go i H ∧ ∃ Nx : Hp → Prop, (∀ H', Nx H' → ∃ m', m' < m ∧ W (i + 1) m' H') ∧ ∀ x H', (Itt K a).yld i H x H' → g x (wipe σ vs) H' fun σ2 H2 => wipe σ2 vs = wipe σ vs ∧ tt σ2 H2 fun b H3 =>
        if b = true then wi1 σ2 H3 fun J1 H4 => ∃ W1 : Nat → Nat → Hp → Prop, (∃ m, W1 0 m H4) ∧ ∀ j k H, W1 j k H →
          (J1.stop j H ∧ Nx H) ∨ (J1.go j H ∧ ∃ Nx1 : Hp → Prop, (∀ H', Nx1 H' → ∃ k', k' < k ∧ W1 (j + 1) k' H') ∧ ∀ x H', J1.yld j H x H' → g1 x (wipe σ2 vs1) H' fun σ3 H5 => wipe σ3 vs1 = wipe σ2 vs1 ∧ tt1 σ3 H5 fun b H6 =>
            if b = true then te σ3 H6 fun y H7 => ∃ acc, H7 D = some (.lst acc) ∧ acc.length < sizeLine ∧ Nx1 (upd H7 D (.lst (acc ++ [y]))) else Nx1 H6) else Nx H3) := by
  refine ⟨fun i m H => m = xs.length - i ∧ i ≤ xs.length ∧ Pv i H, ⟨xs.length, by simp, Nat.zero_le _, h0⟩, ?_⟩
  rintro i m H ⟨rfl, hi, p⟩
  have q := hl i H hi p
  rcases Nat.lt_or_ge i xs.length with c | c
  · exact .inr ⟨⟨xs, xs[i], q, List.getElem?_eq_getElem c⟩, Pv (i + 1), fun H' p' => ⟨xs.length - (i + 1), by omega, rfl, c, p'⟩, fun x H' y => by rw [y.1]; exact hs i x H (y.2 xs q) p⟩
  · have e : i = xs.length := Nat.le_antisymm hi c
    rw [e] at p
    exact .inl ⟨⟨xs, q, c⟩, hd H p⟩
/-- .. the inner walk over a tuple -/
theorem lc2_in {b : Addr} {ys : List V} {g1 : TG} {tt1 : TT} {te : TE} {vs1 : List Nat} {σ2 : L2.St} {H4 : Hp} {D : Addr} {Nx : Hp → Prop} (Pv : Nat → Hp → Prop) (h0 : Pv 0 H4) (hl : ∀ j H, j ≤ ys.length → Pv j H → SqT K H b ys)
    (hs : ∀ j x H, ys[j]? = some x → Pv j H → g1 x (wipe σ2 vs1) H fun σ3 H5 => wipe σ3 vs1 = wipe σ2 vs1 ∧ tt1 σ3 H5 fun c H6 => if c = true then te σ3 H6 fun y H7 => ∃ acc, H7 D = some (.lst acc) ∧ acc.length < sizeLine ∧ Pv (j + 1) (upd H7 D (.lst (acc ++ [y]))) else Pv (j + 1) H6)
    (hd : ∀ H, Pv ys.length H → Nx H) :
    ∃ W1 : Nat → Nat → Hp → Prop, (∃ m, W1 0 m H4) ∧ ∀ j k H, W1 j k H →
      ((Itt K b).stop j H ∧ Nx H) ∨ ((Itt K b).go j H ∧ ∃ Nx1 : Hp → Prop, (∀ H', Nx1 H' → ∃ k', k' < k ∧ W1 (j + 1) k' H') ∧ ∀ x H', (Itt K b).yld j H x H' → g1 x (wipe σ2 vs1) H' fun σ3 H5 => wipe σ3 vs1 = wipe σ2 vs1 ∧ tt1 σ3 H5 fun c H6 =>
        if c = true then te σ3 H6 fun y H7 => ∃ acc, H7 D = some (.lst acc) ∧ acc.length < sizeLine ∧ Nx1 (upd H7 D (.lst (acc ++ [y]))) else Nx1 H6) := by
  refine ⟨fun j m H => m = ys.length - j ∧ j ≤ ys.length ∧ Pv j H, ⟨ys.length, by simp, Nat.zero_le _, h0⟩, ?_⟩
  rintro j m H ⟨rfl, hj, p⟩
  have q := hl j H hj p
  rcases Nat.lt_or_ge j ys.length with c | c
  · exact .inr ⟨⟨ys, ys[j], q, List.getElem?_eq_getElem c⟩, Pv (j + 1), fun H' p' => ⟨ys.length - (j + 1), by omega, rfl, c, p'⟩, fun x H' y => by rw [y.1]; exact hs j x H (y.2 ys q) p⟩
  · have e : j = ys.length := Nat.le_antisymm hj c
    rw [e] at p
    exact .inl ⟨⟨ys, q, c⟩, hd H p⟩
def spChecksS (cI : Addr) : Sp := fun vs H Q E => ∃ (a : Addr) (xs : List Int) (n : Int), vs = [.ref a, .int n] ∧ SeqV H a (xs.map V.int) ∧ (¬ Asc n xs → E (.ref cI) none H) ∧ (Asc n xs → Q .non H)
theorem cal_checksS {cI : Addr} (T : Txt K mg) (eI : ErrC K mg "InvalidAutomaton" cI) : CalX P w K mg base 1 "check_states" (spChecksS cI) := by
  obtain ⟨f, fd, F, hm, hb⟩ := T.h_check_states
  refine ⟨f, fd, _, F.okX sc_check_states (fun vs H Q E h => ?_) (fun cdv A outer s H vs Q E hr h => ?_), hm, F.kp, hb⟩
  · obtain ⟨a, xs, n, rfl, _⟩ := h
    rfl
  · obtain ⟨a, xs, n, rfl, ha, q1, q2⟩ := h
    refine ⟨_, (pss_cons
      (ps_set (i := 2) sc_check_states.nd rfl (Or.inl rfl) (pe_un un_neg pe_int))
      (pss_one
      (ps_for (passes_of rfl) rfl (pi_seq (K := K) rfl (pv 0)) (pg_name (i := 3) sc_check_states.nd rfl (.inl rfl)) (pss_cons
      (ps_if (PW.pt (pw_or (pt_cmpR op_le (pv 3) (pv 2) (nomark _)) (pw_or1 (pt_cmpR op_ge (pv 3) (pv 1) (nomark _))))) (pss_one
      (ps_raise rfl (takes_of rfl rfl rfl rfl) (eI.made rfl))) pss_nil)
      (pss_one
      (ps_set (i := 2) sc_check_states.nd rfl (Or.inl rfl) (pv 3))))))), ?_⟩
    refine ⟨_, rfl, ?_⟩
    refine for_seq (a := a) (xs := xs.map V.int) rfl ha (fun i σ H' => ∃ (b : Int) (v : Option V), σ = [some (.ref a), some (.int n), some (.int b), v] ∧ H' = H ∧ Asc n (xs.take i) ∧ -1 ≤ b ∧ (∀ x ∈ xs.take i, x ≤ b) ∧ (b = -1 ∨ b ∈ xs.take i))
      ⟨-1, none, rfl, rfl, ⟨by simp, by simp⟩, by omega, by simp, .inl rfl⟩ (fun i σ H' ⟨_, _, _, z, _⟩ => by rw [z]; exact Same.refl _) ?_ ?_
    · rintro i y σ H' hi ⟨b, v, rfl, rfl, hA, hb1, hle, hor⟩
      obtain ⟨z, hz, rfl⟩ := ints_get hi
      have cutE : xs = xs.take i ++ z :: xs.drop (i + 1) := by
        conv => lhs; rw [← List.take_append_drop i xs]
        congr 1
        exact List.drop_eq_getElem?_toList_append.trans (by rw [hz]; rfl)
      refine ⟨_, rfl, _, rfl, _, _, rfl, rfl, _, rfl, ite2 (fun c => ?_) (fun c => ?_)⟩
      · have c := of_decide_eq_true c
        refine q1 fun hasc => ?_
        have hz0 := (hasc.2 z (List.mem_of_getElem? hz)).1
        rcases hor with u | u
        · omega
        · have hp := hasc.1
          rw [cutE] at hp
          have := (List.pairwise_append.mp hp).2.2 b u z List.mem_cons_self
          omega
      have c1 : ¬ z ≤ b := fun u => c (decide_eq_true u)
      refine ⟨_, rfl, _, rfl, _, _, rfl, rfl, _, rfl, ite2 (fun c => ?_) (fun c => ?_)⟩
      · have c := of_decide_eq_true c
        refine q1 fun hasc => ?_
        have := (hasc.2 z (List.mem_of_getElem? hz)).2
        omega
      have c2 : ¬ n ≤ z := fun u => c (decide_eq_true u)
      refine ⟨_, rfl, z, _, rfl, rfl, ⟨?_, fun x hx => ?_⟩, by omega, fun x hx => ?_, .inr (by rw [take_get hz]; simp)⟩
      · rw [take_get hz]
        refine List.pairwise_append.mpr ⟨hA.1, by simp, fun x hx y hy => ?_⟩
        rw [List.mem_singleton.mp hy]
        have := hle x hx
        omega
      · rw [take_get hz] at hx
        rcases List.mem_append.mp hx with u | u
        · exact hA.2 x u
        · rw [List.mem_singleton.mp u]
          omega
      · rw [take_get hz] at hx
        rcases List.mem_append.mp hx with u | u
        · have := hle x u
          omega
        · rw [List.mem_singleton.mp u]
          exact Int.le_refl _
    · rintro σ H' ⟨b, v, rfl, rfl, hA, _⟩
      rw [List.length_map, List.take_length] at hA
      exact q2 hA
structure LCs (H : Hp) (r : Addr) (as : List Addr) (c : List (List (List Int))) : Prop where
  at_ : H r = some (.lst (as.map V.ref))
  len : as.length = c.length
  g : ∀ (i : Nat) (a : Addr), as[i]? = some a → ∃ (bs : List Addr) (row : List (List Int)), c[i]? = some row ∧ H a = some (.lst (bs.map V.ref)) ∧ bs.length = row.length ∧ ∀ (j : Nat) (b : Addr), bs[j]? = some b → ∃ e, row[j]? = some e ∧ SeqV H b (e.map V.int)
theorem sq_nx {H : Hp} {x a C dx : Addr} {f : List (Str × V)} {xs : List V} (hx : H x = some (.ins C dx f)) (h : SeqV H a xs) : a ≠ x := fun z => by
  rw [z] at h
  rcases h with h | h
  · rw [hx] at h
    cases h
  · rw [hx] at h
    cases h
theorem LCs.kp {H H' : Hp} {x r C dx : Addr} {f : List (Str × V)} {as : List Addr} {c : List (List (List Int))} (h : LCs H r as c) (hx : H x = some (.ins C dx f)) (k : Kp x H H') : LCs H' r as c := by
  have nl : ∀ {a : Addr} {xs : List V}, H a = some (.lst xs) → a ≠ x := fun ha z => by
    rw [z, hx] at ha
    cases ha
  refine ⟨k _ _ (nl h.at_) h.at_, h.len, fun i a e => ?_⟩
  obtain ⟨bs, row, h1, h2, h3, h4⟩ := h.g i a e
  refine ⟨bs, row, h1, k _ _ (nl h2) h2, h3, fun j b hb => ?_⟩
  obtain ⟨e', h5, h6⟩ := h4 j b hb
  have n := sq_nx hx h6
  exact ⟨e', h5, h6.elim (fun z => .inl (k _ _ n z)) (fun z => .inr (k _ _ n z))⟩
theorem tupq {H : Hp} {p : Addr} {ns : List Int} {Q : VK} (h : SeqV H p (ns.map V.int)) (q : ∀ (H' : Hp) (t : Addr), Same H H' → TupI H' t ns → Q (.ref t) H') : rTupOf K [.ref p] H Q := by
  rcases h with h | h
  · exact ⟨p, _, rfl, .inl ⟨.of h, fun l hl => q _ l (same_new hl) upd_same⟩⟩
  · exact ⟨p, _, rfl, .inr ⟨.of h, q H p (Same.refl _) h⟩⟩
def spInitS (C cI : Addr) : Sp := fun vs H Q E => ∃ (x i a r dx : Addr) (L : Int) (ini acc : List Int) (as : List Addr) (c : List (List (List Int))), vs = [.ref x, .int L, .ref i, .ref a, .ref r] ∧ H x = some (.ins C dx []) ∧ SeqV H i (ini.map V.int) ∧ SeqV H a (acc.map V.int) ∧ LCs H r as c ∧
  c.length ≤ 1000 ∧ (∀ r ∈ c, r.length ≤ 1000) ∧ (¬ VldB L ini acc c → E (.ref cI) none H) ∧ (VldB L ini acc c → ∀ H', Kp x H H' → AutAt C H' x L ini acc c → Q .non H')
theorem ok_initS {cI C fI : Addr} {fdI : FuncData} (T : Txt K mg) (eI : ErrC K mg "InvalidAutomaton" cI) (PC : AutC K C) (F : L2.Fun K "__init__" "Automaton.__init__" s_Automaton_init fI fdI) :
    FnOk P w K mg base (L2.CX P w) 2 fI fdI ["self", "letters", "initial", "accepting", "rows"] (spInitS C cI) := by
  have X_check_states : CalX P w K mg base 1 "check_states" (spChecksS cI) := cal_checksS T eI
  refine F.okX sc_Automaton_init (fun vs H Q E h => ?_) (fun cdv A outer s H vs Q E hr h => ?_)
  · obtain ⟨x, i, a, r, dx, L, ini, acc, as, c, rfl, _⟩ := h
    rfl
  · obtain ⟨x, ia, aa, r, dx, L, ini, acc, as, cu, rfl, hx, hi, ha, hL, l1, l2, q1, q2⟩ := h
    refine ⟨_, (pss_cons
      (ps_if (pt_cmpR op_lt (pv 1) pe_int (nomark _)) (pss_one
      (ps_raise rfl (takes_of rfl rfl rfl rfl) (eI.made rfl))) pss_nil)
      (pss_cons
      (ps_if (pt_cmpR op_eq (pe_callB (call_lenK (K := K) rfl) (by rfl) T.z_len PySem.boot_len (pa_cons (pv 4) pa_nil)) pe_int (nomark _)) (pss_one
      (ps_raise rfl (takes_of rfl rfl rfl rfl) (eI.made rfl))) pss_nil)
      (pss_cons
      (ps_expr (pe_cx X_check_states hr (by decide) (takes_of rfl rfl rfl rfl) (by rfl) (pa_cons (pv 2) (pa_cons (pe_callB (call_lenK (K := K) rfl) (by rfl) T.z_len PySem.boot_len (pa_cons (pv 4) pa_nil)) pa_nil))))
      (pss_cons
      (ps_expr (pe_cx X_check_states hr (by decide) (takes_of rfl rfl rfl rfl) (by rfl) (pa_cons (pv 3) (pa_cons (pe_callB (call_lenK (K := K) rfl) (by rfl) T.z_len PySem.boot_len (pa_cons (pv 4) pa_nil)) pa_nil))))
      (pss_cons
      (ps_for (passes_of rfl) rfl (pi_list (pv 4)) (pg_name (i := 5) sc_Automaton_init.nd rfl (.inl rfl)) (pss_cons
      (ps_if (pt_cmpR op_ne (pe_callB (call_lenK (K := K) rfl) (by rfl) T.z_len PySem.boot_len (pa_cons (pv 5) pa_nil)) (pv 1) (nomark _)) (pss_one
      (ps_raise rfl (takes_of rfl rfl rfl rfl) (eI.made rfl))) pss_nil)
      (pss_one
      (ps_for (passes_of rfl) rfl (pi_list (pv 5)) (pg_name (i := 6) sc_Automaton_init.nd rfl (.inl rfl)) (pss_one
      (ps_expr (pe_cx X_check_states hr (by decide) (takes_of rfl rfl rfl rfl) (by rfl) (pa_cons (pv 6) (pa_cons (pe_callB (call_lenK (K := K) rfl) (by rfl) T.z_len PySem.boot_len (pa_cons (pv 4) pa_nil)) pa_nil)))))))))
      (pss_cons
      (ps_fld (pv 0) (pv 1) rfl)
      (pss_cons
      (ps_fld (pv 0) (pe_callTy (call_tuple_ofK (K := K) rfl) (by rfl) T.z_tuple (by decide +kernel) (pa_cons (pv 2) pa_nil)) rfl)
      (pss_cons
      (ps_fld (pv 0) (pe_callTy (call_tuple_ofK (K := K) rfl) (by rfl) T.z_tuple (by decide +kernel) (pa_cons (pv 3) pa_nil)) rfl)
      (pss_one
      (ps_fld (pv 0) (pe_callTy (call_tuple_ofK (K := K) rfl) (by rfl) T.z_tuple (by decide +kernel) (pa_cons (pe_lc (own := [("row", 5)]) (g := gName 5) (tt := tYes) rfl sc_Automaton_init.nd (pi_list (pv 4)) (blkOk_by (N := N_Automaton_init) (sc := defScope s_Automaton_init) (by decide +kernel)) (fun _ _ _ _ _ => (pg_name (i := 5) sc_Automaton_init.nd rfl (Or.inl rfl))) (fun _ _ _ _ _ => pts_nil) (fun _ _ _ _ _ => (pe_callTy (call_tuple_ofK (K := K) rfl) (by rfl) T.z_tuple (by decide +kernel) (pa_cons (pe_lc (own := [("states", 6)]) (g := gName 6) (tt := tYes) rfl sc_Automaton_init.nd (pi_listK (K := K) rfl (pv 5)) (blkOk_by (N := N_Automaton_init) (sc := stS (defScope s_Automaton_init) 8 (defBody s_Automaton_init)) (by decide +kernel)) (fun _ _ _ _ _ => (pg_name (i := 6) sc_Automaton_init.nd rfl (Or.inl rfl))) (fun _ _ _ _ _ => pts_nil) (fun _ _ _ _ _ => (pe_callTy (call_tuple_ofK (K := K) rfl) (by rfl) T.z_tuple (by decide +kernel) (pa_cons (pv 6) pa_nil)))) pa_nil)))) pa_nil)) rfl)))))))))), ?_⟩
    have hl2 : (as.map V.ref).length = cu.length := by rw [List.length_map, hL.len]
    refine ⟨_, rfl, _, _, rfl, rfl, _, rfl, ite_lt (fun c => q1 (fun v => by have := v.1; omega)) (fun c1 => ?_)⟩
    refine ⟨_, rfl, r, _, rfl, .inl (.of hL.at_), rfl, _, rfl, ite_eq (fun c => ?_) (fun c2 => ?_)⟩
    · exact q1 fun v => v.2.1 (List.length_eq_zero_iff.mp (by omega))
    have hne : cu ≠ [] := fun z => c2 (by rw [hl2, z]; rfl)
    refine ⟨_, rfl, _, rfl, r, _, rfl, .inl (.of hL.at_), ia, ini, _, rfl, hi, fun c => q1 fun v => c (by rw [hl2]; exact v.2.2.1), fun c3 => ?_⟩
    refine ⟨_, rfl, _, rfl, r, _, rfl, .inl (.of hL.at_), aa, acc, _, rfl, ha, fun c => q1 fun v => c (by rw [hl2]; exact v.2.2.2.1), fun c4 => ?_⟩
    rw [hl2] at c3 c4
    refine ⟨_, rfl, r, rfl, ⟨_, .of hL.at_⟩, for_list (K := K) (a := r) (xs := as.map V.ref) (fun i σ' H' => ∃ v5 v6 : Option V, σ' = [some (.ref x), some (.int L), some (.ref ia), some (.ref aa), some (.ref r), v5, v6] ∧ H' = H ∧ ∀ q ∈ cu.take i, (q.length : Int) = L ∧ ∀ e ∈ q, Asc cu.length e)
      ⟨_, _, rfl, rfl, by simp⟩ (fun i σ' H' _ ⟨_, _, _, z, _⟩ => by rw [z]; exact .of hL.at_) ?_ ?_⟩
    · rintro i v σ' H' hi2 ⟨v5, v6, rfl, rfl, hall⟩
      obtain ⟨a, haa, rfl⟩ := refs_get hi2
      obtain ⟨bs, row, hrow, hra, hbl0, hR⟩ := hL.g i a haa
      have hmem := List.mem_of_getElem? hrow
      have hbl : (bs.map V.ref).length = row.length := by rw [List.length_map, hbl0]
      refine ⟨_, rfl, a, _, rfl, .inl (.of hra), _, rfl, rfl, _, rfl, ite_ne (fun c => ?_) (fun c5 => ?_)⟩
      · exact q1 fun v => c (by rw [hbl]; exact (v.2.2.2.2 row hmem).1)
      rw [hbl] at c5
      refine ⟨_, rfl, a, rfl, ⟨_, .of hra⟩, for_list (K := K) (a := a) (xs := bs.map V.ref) (fun j σ' H2 => ∃ v6 : Option V, σ' = [some (.ref x), some (.int L), some (.ref ia), some (.ref aa), some (.ref r), some (.ref a), v6] ∧ H2 = H' ∧ ∀ e ∈ row.take j, Asc cu.length e)
        ⟨_, rfl, rfl, by simp⟩ (fun i σ' H' _ ⟨_, _, z, _⟩ => by rw [z]; exact .of hra) ?_ ?_⟩
      · rintro j v σ' H2 hj ⟨v6, rfl, rfl, hall2⟩
        obtain ⟨b, hb, rfl⟩ := refs_get hj
        obtain ⟨e, he, hbe⟩ := hR j b hb
        refine ⟨_, rfl, _, rfl, r, _, rfl, .inl (.of hL.at_), b, e, _, rfl, hbe, fun c => q1 fun v => c (by rw [hl2]; exact (v.2.2.2.2 row hmem).2 e (List.mem_of_getElem? he)), fun c6 => ?_⟩
        rw [hl2] at c6
        refine ⟨_, rfl, rfl, fun z hz => ?_⟩
        rw [take_get he] at hz
        rcases List.mem_append.mp hz with k | k
        · exact hall2 z k
        · rw [List.mem_singleton.mp k]
          exact c6
      · rintro σ' H2 ⟨v6, rfl, rfl, hall2⟩
        rw [hbl, List.take_length] at hall2
        refine ⟨_, _, rfl, rfl, fun z hz => ?_⟩
        rw [take_get hrow] at hz
        rcases List.mem_append.mp hz with k | k
        · exact hall z k
        · rw [List.mem_singleton.mp k]
          exact ⟨c5, hall2⟩
    · rintro σ' H' ⟨v5, v6, rfl, rfl, hall⟩
      rw [hl2, List.take_length] at hall
      have hv : VldB L ini acc cu := ⟨by omega, hne, c3, c4, hall⟩
      have nix : ia ≠ x := sq_nx hx hi
      have nax : aa ≠ x := sq_nx hx ha
            -- self.letters
      refine ⟨_, rfl, _, rfl, x, C, dx, [], rfl, hx, PC.cl, PC.nL, by decide, ?_⟩
      have k1 : Kp x H' (upd H' x (.ins C dx (putF "letters" (.int L) []))) := Kp.own
      have x1 : (upd H' x (.ins C dx (putF "letters" (.int L) []))) x = some (.ins C dx (putF "letters" (.int L) [])) := upd_same
      generalize upd H' x (.ins C dx (putF "letters" (.int L) [])) = H1 at *
      -- self.initial
      have hi1 : SeqV H1 ia (ini.map V.int) := hi.elim (fun z => .inl (k1 _ _ nix z)) (fun z => .inr (k1 _ _ nix z))
      have ha1 : SeqV H1 aa (acc.map V.int) := ha.elim (fun z => .inl (k1 _ _ nax z)) (fun z => .inr (k1 _ _ nax z))
      refine ⟨_, rfl, ?_⟩
      walk_at "nl"
      refine tupq hi1 fun Ha it sa ti => ?_
      have xa := sa _ _ x1
      have nxi : x ≠ it := fun z => by rw [TupI, ← z, xa] at ti; cases ti
      refine ⟨_, rfl, x, C, dx, _, rfl, xa, PC.cl, PC.nI, pl_lt (pl_next pl_0) (by decide), ?_⟩
      have k2 : Kp x H1 (upd Ha x (.ins C dx (putF "initial" (.ref it) (putF "letters" (.int L) [])))) := fun c u nc hc => by rw [upd_ne nc]; exact sa _ _ hc
      have x2 : (upd Ha x (.ins C dx (putF "initial" (.ref it) (putF "letters" (.int L) [])))) x = some (.ins C dx (putF "initial" (.ref it) (putF "letters" (.int L) []))) := upd_same
      have t2 : TupI (upd Ha x (.ins C dx (putF "initial" (.ref it) (putF "letters" (.int L) [])))) it ini := by
        show _ = _
        rw [upd_ne nxi.symm]
        exact ti
      generalize upd Ha x (.ins C dx (putF "initial" (.ref it) (putF "letters" (.int L) []))) = H2 at *
      have ha2 : SeqV H2 aa (acc.map V.int) := ha1.elim (fun z => .inl (k2 _ _ nax z)) (fun z => .inr (k2 _ _ nax z))
      -- self.accepting
      refine ⟨_, rfl, ?_⟩
      walk_at "nl"
      refine tupq ha2 fun Hb at_ sb tb => ?_
      have xb := sb _ _ x2
      have nxa : x ≠ at_ := fun z => by rw [TupI, ← z, xb] at tb; cases tb
      refine ⟨_, rfl, x, C, dx, _, rfl, xb, PC.cl, PC.nA, pl_lt (pl_next (pl_next pl_0)) (by decide), ?_⟩
      have k3 : Kp x H2 (upd Hb x (.ins C dx (putF "accepting" (.ref at_) (putF "initial" (.ref it) (putF "letters" (.int L) []))))) := fun c u nc hc => by rw [upd_ne nc]; exact sb _ _ hc
      have x3 : (upd Hb x (.ins C dx (putF "accepting" (.ref at_) (putF "initial" (.ref it) (putF "letters" (.int L) []))))) x = some (.ins C dx (putF "accepting" (.ref at_) (putF "initial" (.ref it) (putF "letters" (.int L) [])))) := upd_same
      have t3 : TupI (upd Hb x (.ins C dx (putF "accepting" (.ref at_) (putF "initial" (.ref it) (putF "letters" (.int L) []))))) at_ acc := by
        show _ = _
        rw [upd_ne nxa.symm]
        exact tb
      have t23 : TupI (upd Hb x (.ins C dx (putF "accepting" (.ref at_) (putF "initial" (.ref it) (putF "letters" (.int L) []))))) it ini := k3 _ _ nxi.symm t2
      generalize upd Hb x (.ins C dx (putF "accepting" (.ref at_) (putF "initial" (.ref it) (putF "letters" (.int L) [])))) = H3 at *
      have k03 : Kp x H' H3 := (k1.trans k2).trans k3
      have hL3 : LCs H3 r as cu := hL.kp hx k03
      -- self.rows
      refine ⟨_, rfl, r, rfl, ⟨_, .of hL3.at_⟩, fun D hD => lc_list (K := K) (a := r) (xs := as.map V.ref) (fun i H4 => ∃ (as2 : List Addr) (bss2 : List (List Addr)), Same H3 H4 ∧ H4 D = some (.lst (as2.map V.ref)) ∧ CubB .tup H4 as2 bss2 (cu.take i))
        ⟨[], [], same_new hD, upd_same, True.intro⟩ (fun i H' _ ⟨_, _, z, _⟩ => .of (z _ _ hL3.at_)) ?_ ?_⟩
      · rintro i v H4 hi4 ⟨as2, bss2, s4, e4, C4⟩
        obtain ⟨a, haa, rfl⟩ := refs_get hi4
        obtain ⟨bs, row, hrow, hra, hbl0, hR⟩ := hL3.g i a haa
        have hil : i < cu.length := (List.getElem?_eq_some_iff.mp hrow).1
        have hbl : (bs.map V.ref).length = row.length := by rw [List.length_map, hbl0]
        have hrl := l2 row (List.mem_of_getElem? hrow)
        refine ⟨rfl, _, rfl, a, rfl, ⟨_, .of (s4 _ _ hra)⟩, fun E1 hE => lc_list (K := K) (a := a) (xs := bs.map V.ref) (fun j H5 => ∃ cs : List Addr, Same H4 H5 ∧ H5 E1 = some (.lst (cs.map V.ref)) ∧ RowsA .tup H5 cs (row.take j))
          ⟨[], same_new hE, upd_same, True.intro⟩ (fun i H' _ ⟨_, z, _⟩ => .of (z _ _ (s4 _ _ hra))) ?_ ?_⟩
        · rintro j v H5 hj ⟨cs, s5, e5, R5⟩
          obtain ⟨b, hb, rfl⟩ := refs_get hj
          obtain ⟨e, he, hbe⟩ := hR j b hb
          have hjl : j < row.length := (List.getElem?_eq_some_iff.mp he).1
          have cl := R5.len
          rw [List.length_take] at cl
          refine ⟨rfl, _, rfl, ?_⟩
          walk_at "nl"
          refine tupq ((hbe.same s4).same s5) fun Hc t sc tc => ?_
          have ec := sc _ _ e5
          have nEt : E1 ≠ t := fun z => by rw [TupI, ← z, ec] at tc; cases tc
          refine ⟨_, ec, by rw [List.length_map]; exact Nat.lt_of_le_of_lt (show cs.length ≤ 1000 by omega) (by decide), cs ++ [t], ?_, ?_, ?_⟩
          · intro c o hc
            rw [upd_ne (ne_of_none hc hE)]
            exact sc _ _ (s5 _ _ hc)
          · rw [upd_same, List.map_append]
            rfl
          · rw [take_get he]
            refine RowsA.snoc ?_ (rowsUpd (fun ys z => ?_) (R5.same sc))
            · rw [upd_ne nEt.symm]
              exact tc
            · rw [ec] at z
              cases z
        · rintro H5 ⟨cs, s5, e5, R5⟩
          rw [hbl, List.take_length] at R5
          have cl := cub_len C4
          rw [List.length_take] at cl
          refine ⟨E1, _, rfl, .inl ⟨.of e5, fun t ht => ?_⟩⟩
          have e54 := s5 _ _ e4
          have nDt : D ≠ t := fun z => by rw [z, ht] at e54; cases e54
          refine ⟨_, by rw [upd_ne nDt]; exact e54, by rw [List.length_map]; exact Nat.lt_of_le_of_lt (show as2.length ≤ 1000 by omega) (by decide), as2 ++ [t], bss2 ++ [cs], ?_, ?_, ?_⟩
          · intro c o hc
            rw [upd_ne (ne_of_none hc hD), upd_ne (ne_of_none (s5 _ _ (s4 _ _ hc)) ht)]
            exact s5 _ _ (s4 _ _ hc)
          · rw [upd_same, List.map_append]
            rfl
          · rw [take_get hrow]
            have hD5 : ∀ ys, (upd H5 t (.tup (cs.map V.ref))) D ≠ some (.tup ys) := fun ys z => by
              rw [upd_ne nDt, e54] at z
              cases z
            refine cub_snoc ?_ (rowsUpd hD5 (R5.same (same_new ht))) (cub_tup hD5 (cub_same (s5.trans (same_new ht)) C4))
            rw [upd_ne nDt.symm, upd_same]
      · rintro H4 ⟨as2, bss2, s4, e4, C4⟩
        rw [hl2, List.take_length] at C4
        refine ⟨D, _, rfl, .inl ⟨.of e4, fun rt hrt => ?_⟩⟩
        have nxr : x ≠ rt := fun z => by
          have y := s4 _ _ x3
          rw [z, hrt] at y
          cases y
        have nir : it ≠ rt := fun z => by
          have y := s4 _ _ t23
          rw [z, hrt] at y
          cases y
        have nar : at_ ≠ rt := fun z => by
          have y := s4 _ _ t3
          rw [z, hrt] at y
          cases y
        have x4 : (upd H4 rt (.tup (as2.map V.ref))) x = some (.ins C dx (putF "accepting" (.ref at_) (putF "initial" (.ref it) (putF "letters" (.int L) [])))) := by
          rw [upd_ne nxr]
          exact s4 _ _ x3
        refine ⟨_, rfl, x, C, dx, _, rfl, x4, PC.cl, PC.nR, pl_lt (pl_next (pl_next (pl_next pl_0))) (by decide), q2 hv _ ?_ ⟨dx, it, at_, rt, as2, bss2, upd_same, ?_, ?_, ?_, ?_⟩⟩
        · intro b o nb hb
          rw [upd_ne nb, upd_ne (fun z => by have y := s4 _ _ (k03 _ _ nb hb); rw [z, hrt] at y; cases y)]
          exact s4 _ _ (k03 _ _ nb hb)
        · show _ = _
          rw [upd_ne nxi.symm, upd_ne nir]
          exact s4 _ _ t23
        · show _ = _
          rw [upd_ne nxa.symm, upd_ne nar]
          exact s4 _ _ t3
        · rw [upd_ne nxr.symm, upd_same]
        · exact cub_tup (fun ys z => by rw [x4] at z; cases z) (cub_same (same_new hrt) C4)
/-! a fresh instance -/
theorem same_made {C x dx : Addr} {H1 H2 : Hp} (hx : H1 x = none) (hd : H1 dx = none) (k : Kp x (upd (upd H1 dx (.own x)) x (.ins C dx [])) H2) : Same H1 H2 := fun b o hb => by
  have n1 : b ≠ x := fun z => by rw [z, hx] at hb; cases hb
  have n2 : b ≠ dx := fun z => by rw [z, hd] at hb; cases hb
  refine k _ _ n1 ?_
  rw [upd_ne n1, upd_ne n2]
  exact hb
theorem same_fresh {C x dx : Addr} {H1 : Hp} (hx : H1 x = none) (hd : H1 dx = none) : Same H1 (upd (upd H1 dx (.own x)) x (.ins C dx [])) := same_made hx hd (Kp.refl _ _)
theorem rep_get {α β : Type} {bs : List α} {es : List β} {R : α → β → Prop} (hl : bs.length = es.length) (h : ∀ (m : Nat) (b : α), bs[m]? = some b → ∃ e, es[m]? = some e ∧ R b e) : ∀ (k m : Nat) (b : α), ((List.replicate k bs).flatten)[m]? = some b → ∃ e, ((List.replicate k es).flatten)[m]? = some e ∧ R b e
  | 0, _, _, hb => by cases hb
  | k + 1, m, b, hb => by
    rw [List.replicate_succ, List.flatten_cons] at hb ⊢
    rcases Nat.lt_or_ge m bs.length with c | c
    · rw [List.getElem?_append_left c] at hb
      rw [List.getElem?_append_left (by omega)]
      exact h m b hb
    · rw [List.getElem?_append_right c] at hb
      rw [List.getElem?_append_right (by omega), ← hl]
      exact rep_get hl h k _ b hb
theorem gloA (T : Txt K mg) : ∃ (cM cI C fI : Addr) (fdI : FuncData), ErrC K mg "InvalidAutomaton" cI ∧ AutC K C ∧ Mk K C fI ∧ mg "Automaton" = some (.ref C) ∧ L2.Fun K "__init__" "Automaton.__init__" s_Automaton_init fI fdI ∧ Binds K fdI ["self", "letters", "initial", "accepting", "rows"] [] ∧ ErrC K mg "Mismatch" cM := T.er
def wdn (k : Nat) (c : List (List (List Int))) : List (List (List Int)) := c.map fun row => (List.replicate k row).flatten
theorem wdn_vld {L n : Int} {ini acc : List Int} {c : List (List (List Int))} {k : Nat} (h : VldB L ini acc c) (hn : 1 ≤ n) (hk : n = L * (k : Int)) : VldB n ini acc (wdn k c) := by
  obtain ⟨h1, h2, h3, h4, h5⟩ := h
  have e : (wdn k c).length = c.length := List.length_map _
  refine ⟨hn, fun z => h2 (List.length_eq_zero_iff.mp (by rw [← e, z]; rfl)), by rw [e]; exact h3, by rw [e]; exact h4, fun q hq => ?_⟩
  obtain ⟨row, hr, rfl⟩ := List.mem_map.mp hq
  obtain ⟨h6, h7⟩ := h5 row hr
  refine ⟨?_, fun e' he => ?_⟩
  · rw [List.length_flatten, List.map_replicate, List.sum_replicate_nat, Int.natCast_mul, h6, hk, Int.mul_comm]
  · rw [e]
    obtain ⟨l, hl, hel⟩ := List.mem_flatten.mp he
    rw [(List.mem_replicate.mp hl).2] at hel
    exact h7 e' hel
def spWiden (C cM : Addr) : Sp := fun vs H Q E => ∃ (x : Addr) (n L : Int) (ini acc : List Int) (c : List (List (List Int))), vs = [.ref x, .int n] ∧ AutAt C H x L ini acc c ∧ VldB L ini acc c ∧ c.length ≤ 100 ∧ L ≤ 100 ∧ n ≤ 100 ∧
  ((n < 1 ∨ n % L ≠ 0) → ∀ H', Same H H' → E (.ref cM) none H') ∧ (1 ≤ n → n % L = 0 → ∀ (H' : Hp) (y : Addr), Same H H' → AutAt C H' y n ini acc (wdn (n / L).toNat c) → Q (.ref y) H')
theorem cal_widen {cM cI C fI : Addr} {fdI : FuncData} (T : Txt K mg) (eI : ErrC K mg "InvalidAutomaton" cI) (PC : AutC K C) (hM : Mk K C fI) (gC : mg "Automaton" = some (.ref C)) (F0 : L2.Fun K "__init__" "Automaton.__init__" s_Automaton_init fI fdI) (hB : Binds K fdI ["self", "letters", "initial", "accepting", "rows"] [])
    (eM : ErrC K mg "Mismatch" cM) : CalX P w K mg base 4 "widen" (spWiden C cM) := by
  have MK : MakX P w K mg base 2 "Automaton" C (spInitS C cI) := ⟨fI, fdI, _, hM, ok_initS T eI PC F0, gC, hB⟩
  obtain ⟨f, fd, F, hm, hb⟩ := T.h_widen
  refine ⟨f, fd, _, F.okX sc_widen (fun vs H Q E h => ?_) (fun cdv A outer s H vs Q E hr h => ?_), hm, F.kp, hb⟩
  · obtain ⟨x, n, L, ini, acc, c, rfl, _⟩ := h
    rfl
  · obtain ⟨x, n, L, ini, acc, c, rfl, hA, hV, b1, b2, b3, qx, q⟩ := h
    refine ⟨_, (pss_cons
      (ps_if (PW.pt (pw_or (pt_cmpR op_lt (pv 1) pe_int (nomark _)) (pw_or1 (pt_cmpR op_ne (pe_op op_mod (pv 1) (pe_fld (pv 0) rfl)) pe_int (nomark _))))) (pss_one
      (ps_raise rfl (takes_of rfl rfl rfl rfl) (eM.made rfl))) pss_nil)
      (pss_cons
      (ps_setLc (i := 2) (own := [("row", 3)]) (g := gName 3) (tt := tYes) rfl sc_widen.nd rfl rfl (sw_true rfl rfl rfl (by decide +kernel)) (pi_tup (pe_fld (pv 0) rfl)) (blkOk_by (N := N_widen) (sc := defScope s_widen) (by decide +kernel)) (fun _ _ _ _ _ => (pg_name (i := 3) sc_widen.nd rfl (Or.inl rfl))) (fun _ _ _ _ _ => pts_nil) (fun _ _ _ _ _ => (pe_op op_rep (pe_callTy (call_list_ofK (K := K) rfl) (by rfl) T.z_list (by decide +kernel) (pa_cons (pv 3) pa_nil)) (pe_op op_fdiv (pv 1) (pe_fldK (K := K) rfl (pv 0) rfl)))))
      (pss_one
      (ps_ret (pe_makeN MK hr (by decide) (by rfl) (pa_cons (pv 1) (pa_cons (pe_fld (pv 0) rfl) (pa_cons (pe_fld (pv 0) rfl) (pa_cons (pv 2) pa_nil))))))))), ?_⟩
    obtain ⟨dx, it, at_, rt, as, bss, e1, e2, e3, e4, e5⟩ := id hA
    have hL1 : 1 ≤ L := hV.1
    refine ⟨_, rfl, _, _, rfl, rfl, _, rfl, ite2 (fun k => ?_) (fun k => ?_)⟩
    · exact qx (.inl (of_decide_eq_true k)) H (Same.refl H)
    refine ⟨_, rfl, _, rfl, x, C, dx, _, _, rfl, e1, PC.cl, PC.nL, bf_L _ _ _ _, _, _, rfl, rfl, by omega, rfl, _, rfl, ?_⟩
    refine ite_ne (fun k2 => qx (.inr k2) H (Same.refl H)) (fun k2 => ?_)
    have hn1 : 1 ≤ n := by
      have : ¬ n < 1 := fun z => k (decide_eq_true z)
      omega
    obtain ⟨kk, hkk⟩ : ∃ kk : Nat, n / L = (kk : Int) := ⟨(n / L).toNat, by rw [Int.toNat_of_nonneg (Int.ediv_nonneg (by omega) (by omega))]⟩
    have hnk : n = L * (kk : Int) := by
      have := Int.mul_ediv_add_emod n L
      rw [k2, hkk] at this
      omega
    have hl2 : (as.map V.ref).length = c.length := by rw [List.length_map, (cub_len e5).1]
    refine ⟨_, rfl, x, C, dx, _, _, rfl, e1, PC.cl, PC.nR, bf_r _ _ _ _, rt, rfl, ⟨_, .of e4⟩, fun D hD => lc_tup (K := K) (a := rt) (xs := as.map V.ref) (fun i H' => ∃ as2 : List Addr, Same H H' ∧ H' D = some (.lst (as2.map V.ref)) ∧ as2.length = i ∧
      ∀ (j : Nat) (a : Addr), as2[j]? = some a → a ≠ D ∧ ∃ (bs : List Addr) (row : List (List Int)), (wdn kk c)[j]? = some row ∧ H' a = some (.lst (bs.map V.ref)) ∧ bs.length = row.length ∧ ∀ (m : Nat) (b : Addr), bs[m]? = some b → ∃ e, row[m]? = some e ∧ SeqV H b (e.map V.int))
      ⟨[], same_new hD, upd_same, rfl, fun j a e => by cases e⟩ (fun i H' _ ⟨_, z, _⟩ => .of (z _ _ e4)) ?_ ?_⟩
    · rintro i v H4 hi ⟨as2, s4, eD, hal, hrw⟩
      obtain ⟨a, haa, rfl⟩ := refs_get hi
      obtain ⟨bs, row, hbs, hrow, hra, hR⟩ := cub_get e5 haa
      have hmem := List.mem_of_getElem? hrow
      have hrL := (hV.2.2.2.2 row hmem).1
      have hbl : bs.length = row.length := hR.len
      have hkl : (kk : Int) ≤ n := by
        have := Int.mul_le_mul_of_nonneg_right hL1 (show (0 : Int) ≤ (kk : Int) by omega)
        omega
      have hb100 : (bs.map V.ref).length ≤ 100 := by rw [List.length_map]; omega
      have hk100 : kk ≤ 100 := by omega
      have hmul : (bs.map V.ref).length * kk ≤ 100 * 100 := Nat.mul_le_mul hb100 hk100
      refine ⟨rfl, _, rfl, a, _, rfl, .inr (.of (s4 _ _ hra)), fun p1 n1 => ?_⟩
      have s5 := same_new (o := .lst (bs.map V.ref)) n1
      refine ⟨_, rfl, _, rfl, x, C, dx, _, _, rfl, s5 _ _ (s4 _ _ e1), PC.cl, PC.nL, bf_L _ _ _ _, _, _, rfl, rfl, ?_, p1, _, _, rfl, rfl, upd_same, ?_, ?_, ?_, fun p2 n2 => ?_⟩
      · unfold CDiv
        omega
      · rw [hkk]; omega
      · rw [hkk]; omega
      · rw [hkk, Int.toNat_natCast]; exact Nat.le_trans hmul (by decide)
      rw [hkk, Int.toNat_natCast]
      have p20 := s5.free n2
      have eD5 := s5 _ _ eD
      have nD2 : D ≠ p2 := fun z => by rw [← z, eD5] at n2; cases n2
      have s6 := same_new (o := .lst ((List.replicate kk (bs.map V.ref)).flatten)) n2
      have hfl : (List.replicate kk (bs.map V.ref)).flatten = ((List.replicate kk bs).flatten).map V.ref := by
        rw [List.map_flatten, List.map_replicate]
      refine ⟨_, s6 _ _ eD5, by rw [List.length_map, hal]; exact Nat.lt_of_le_of_lt (show i ≤ 100 by have := (List.getElem?_eq_some_iff.mp hrow).1; omega) (by decide), as2 ++ [p2], fun c2 u hc => ?_, by rw [upd_same, List.map_append]; rfl, by rw [List.length_append, hal]; rfl, fun j a' hja => ?_⟩
      · rw [upd_ne (ne_of_none hc hD)]
        exact s6 _ _ (s5 _ _ (s4 _ _ hc))
      · rcases Nat.lt_or_ge j as2.length with y | y
        · rw [List.getElem?_append_left y] at hja
          obtain ⟨g0, bs', row', g1, g2, g3, g4⟩ := hrw j a' hja
          exact ⟨g0, bs', row', g1, by rw [upd_ne g0]; exact s6 _ _ (s5 _ _ g2), g3, g4⟩
        · rw [List.getElem?_append_right y] at hja
          have y2 : j - as2.length = 0 := by
            cases e : j - as2.length with
            | zero => rfl
            | succ m => rw [e] at hja; cases hja
          rw [y2] at hja
          cases hja
          have y3 : j = i := by omega
          refine ⟨nD2.symm, (List.replicate kk bs).flatten, (List.replicate kk row).flatten, ?_, ?_, ?_, fun m b hb => ?_⟩
          · unfold wdn
            rw [y3, List.getElem?_map, hrow]
            rfl
          · rw [upd_ne nD2.symm, upd_same, hfl]
          · rw [List.length_flatten, List.length_flatten, List.map_replicate, List.map_replicate, hbl]
          · exact rep_get hbl (R := fun b e => SeqV H b (e.map V.int)) (fun m b hb => by obtain ⟨e, h1, h2⟩ := hR.get hb; exact ⟨e, h1, .inr h2⟩) kk m b hb
    · rintro H4 ⟨as2, s4, eD, hal, hrw⟩
      rw [hl2] at hal
      have hwl : (wdn kk c).length = c.length := List.length_map _
      refine ⟨_, rfl, _, rfl, x, C, dx, _, _, rfl, s4 _ _ e1, PC.cl, PC.nI, bf_i _ _ _ _, _, rfl, x, C, dx, _, _, rfl, s4 _ _ e1, PC.cl, PC.nA, bf_a _ _ _ _, _, rfl, fun y dy hy hdy hne => ?_⟩
      have s5 := same_fresh (C := C) hy hdy
      refine ⟨y, it, at_, D, dy, n, ini, acc, as2, wdn kk c, rfl, upd_same, .inr (s5 _ _ (s4 _ _ e2)), .inr (s5 _ _ (s4 _ _ e3)), ⟨s5 _ _ eD, by rw [hal, hwl], fun j a hja => ?_⟩, by rw [hwl]; omega, fun r hr => ?_, fun z => absurd (wdn_vld hV hn1 hnk) z, fun _ H6 k6 A6 => ⟨rfl, ?_⟩⟩
      · obtain ⟨_, bs, row, h1, h2, h3, h4⟩ := hrw j a hja
        exact ⟨bs, row, h1, s5 _ _ h2, h3, fun m b hb => by obtain ⟨e, h5, h6⟩ := h4 m b hb; exact ⟨e, h5, h6.same (s4.trans s5)⟩⟩
      · have := ((wdn_vld hV hn1 hnk).2.2.2.2 r hr).1
        omega
      · refine q hn1 k2 H6 y (s4.trans (same_made hy hdy k6)) ?_
        rw [hkk, Int.toNat_natCast]
        exact A6
section
variable {prog : Program} {A : Around} {E : Value → Shared → Prop} {s : Shared}
theorem adj1 (n : Nat) : Builtin.Slice.sliceAdjust (some 0) none 1 (n : Int) = (0, (n : Int)) := by
  unfold Builtin.Slice.sliceAdjust
  simp
  omega
theorem plc1 (n : Nat) : Builtin.Slice.slicePlaces 0 (n : Int) 1 = n := by
  unfold Builtin.Slice.slicePlaces
  rw [if_pos (by decide)]
  split
  · rw [Int.ediv_one]; omega
  · omega
theorem item3w {t sl : Addr} {items : List Value} {vl vu vs : Value} {Q : Value → Shared → Prop} (ht : IsTup s.heap t items.toArray) (hs : s.heap.IsSliceOf sl vl vu vs) (pl : IsPart vl (some 0)) (pu : IsPart vu none) (ps : IsPart vs (some 1)) (h : Q (.ref t) s) :
    wpAny (model prog w) A (getItem (.ref t) (.ref sl)) Q E s := by
  have isl : s.TypeIs (.ref sl) "slice" := by
    obtain ⟨ob, g1, g2, _⟩ := id hs
    exact ⟨ob, g1, g2⟩
  unfold getItem
  try with_reducible refine wpAny_holding ?_
  first | refine wpAny_bind (wpAny_pure ?_) | skip
  refine wpAny_bind (wpAny_sequenceKey ht.typeIs (by decide) (wpAny_bind (wpAny_callSpecial?_slot (name := Str.ofString "__getitem__") ht.typeIs slot_tuple_getitem (wpAny_call_entry slot_tuple_getitem ht.typeIs entry_tuple_getitem ?_ (args_tuple_getitem _ _)))))
  show wpAny _ _ (Builtin.Tuple.tupleItemsOf (.ref t) >>= _) _ _ s
  refine wpAny_bind (tupleItemsOf_ ht (wpAny_bind (wpAny_typeOf isl ?_)))
  rw [if_pos (by decide)]
  refine wpAny_bind (Tx.applied3 hs pl pu ps (by decide) ?_)
  rw [adj1, plc1]
  have hyes : (((0 : Int) == 0) && ((1 : Int) == 1) && (items.toArray.size == items.toArray.size)) = true := by simp
  show wpAny _ _ (if (((0 : Int) == 0) && ((1 : Int) == 1) && (items.toArray.size == items.toArray.size)) = true then _ else _) _ _ s
  rw [if_pos hyes]
  refine wpAny_bind ?_
  show wpAny _ _ (typeOf (.ref t) >>= fun T => pure (T == .type "tuple")) _ _ s
  refine wpAny_bind (wpAny_typeOf ht.typeIs (wpAny_pure ?_))
  first
    | rw [if_pos (by decide)]
    | simp only [beq_self_eq_true, if_true]
  first
    | exact wpAny_bind (wpAny_rule (wpAny_pure ⟨_, rfl, wpAny_pure h⟩))
    | exact wpAny_bind (wpAny_rule (wpAny_bind (wpAny_pure (wpAny_pure ⟨_, rfl, wpAny_pure h⟩))))
end
section
variable {X : Cx} {e s3 : Expr} {lo hi : Option Expr} {te : TE} {tl th t3 : TO} {p3 pos : Pos}
def SlQ (a : Addr) (xs : List V) (k : Int) (l u : Option Int) (H4 : Hp) (Q : VK) : Prop := (k ≠ 1 ∧ (pk3 xs l u k).length ≤ sizeLine ∧ ∀ p, H4 p = none → Q (.ref p) (upd H4 p (.tup (pk3 xs l u k)))) ∨ (k = 1 ∧ l = some 0 ∧ u = none ∧ Q (.ref a) H4)
def tSl3W (K : PySem.W.Frag) (te : TE) (tl th t3 : TO) : TE := fun σ H Q => te σ H fun x H1 => tl σ H1 fun l H2 => th σ H2 fun u H3 => t3 σ H3 fun c H4 => ∃ a xs k, x = .ref a ∧ c = some k ∧ SqT K H4 a xs ∧ k ≠ 0 ∧ SlQ a xs k l u H4 Q
theorem pe_sl3W (hK : X.K = K) (he : PE X e te) (hl : PO X lo tl) (hu : PO X hi th) (h3 : PO X (some s3) t3) (ho : ∀ a b : Addr, ∃ ops, subscripted (Expr.Slice lo hi (some s3) p3) false (.ref a) (.ref b) = operate ops (getItem (.ref a) (.ref b)) := by exact fun _ _ => ⟨_, rfl⟩) : PE X (.Subscript e (.Slice lo hi (some s3) p3) pos) (tSl3W K te tl th t3) := by
  subst hK
  refine ⟨fun pins s σ H Q I h => Subscript_ (thn (he.run pins s σ H _ I h) fun v s1 ⟨x, H1, I1, r1, q1⟩ => wpAny_Slice (thn (hl.run pins s1 σ H1 _ I1 q1) fun vl s2 ⟨l, H2, I2, pl, q2⟩ => thn (hu.run pins s2 σ H2 _ I2 q2) fun vu s4 ⟨u, H3, I3, pu, q3⟩ =>
    thn (h3.run pins s4 σ H3 _ I3 q3) fun vc s5 ⟨c, H4, I4, pc, q4⟩ => ?_))⟩
  obtain ⟨a, xs, k, ex, ec, hx, k0, q⟩ := q4
  subst ex
  subst ec
  cases r1
  have I5 : Inv X pins σ H4 { s5 with heap := s5.heap.push { cls := .type "slice", data := .fields #[vl, vu, vc] } } := I4.kept (t' := s5.toks) fun b ob q => Heap.get?_push_of_some _ q
  obtain ⟨its, r, ht, _⟩ := I5.tuple hx
  show wpAny (model X.prog X.w) X.A (subscriptTail e (.Slice lo hi (some s3) p3) (.ref a) (.ref s5.heap.objs.size)) (EP X pins σ Q) X.xe { s5 with heap := s5.heap.push { cls := .type "slice", data := .fields #[vl, vu, vc] } }
  obtain ⟨ops, hops⟩ := ho a s5.heap.objs.size
  refine tail_any (ops := ops) ht.typeIs (slot_tuple_getitem.lookup) ?_ hops
  rcases q with ⟨k1, hz, q⟩ | ⟨k1, e1, e2, q⟩
  · have rv := pk3_vals r l u k
    refine Tx.item3 ht (Heap.IsSliceOf.new _ vl vu vc) pl pu pc k0 k1 ?_ (by rw [← rv.length]; exact hz)
    refine ⟨.ref _, _, I5.laid (t' := s5.toks) (o := .tup (pk3 xs l u k)) (fun b ob q => Heap.get?_push_of_some _ q) (Nat.le_refl _) ?_, rfl, q _ (I5.hok.fresh (Nat.le_refl _))⟩
    exact ⟨hz, _, rv, IsTup.new _ _⟩
  · subst k1
    subst e1
    subst e2
    exact item3w ht (Heap.IsSliceOf.new _ vl vu vc) pl pu pc ⟨.ref a, H4, I5, rfl, q⟩
end
theorem pk3_map {α β : Type} (f : α → β) (xs : List α) (lo hi : Option Int) (c : Int) : pk3 (xs.map f) lo hi c = (pk3 xs lo hi c).map f := by
  unfold pk3
  rw [List.length_map, List.map_filterMap]
  congr 1
  funext k
  rw [List.getElem?_map]
theorem pk3_rel {α β : Type} {R : α → β → Prop} {bs : List α} {row : List β} (hl : bs.length = row.length) (h : ∀ (m : Nat) (b : α), bs[m]? = some b → ∃ e, row[m]? = some e ∧ R b e) (lo hi : Option Int) (c : Int) :
    (pk3 bs lo hi c).length = (pk3 row lo hi c).length ∧ ∀ (m : Nat) (b : α), (pk3 bs lo hi c)[m]? = some b → ∃ e, (pk3 row lo hi c)[m]? = some e ∧ R b e := by
  unfold pk3
  rw [hl]
  generalize List.range (Builtin.Slice.slicePlaces (Builtin.Slice.sliceAdjust lo hi c row.length).1 (Builtin.Slice.sliceAdjust lo hi c row.length).2 c) = ks
  generalize (Builtin.Slice.sliceAdjust lo hi c row.length).1 = b
  induction ks with
  | nil => exact ⟨rfl, fun m b e => by cases e⟩
  | cons k ks ih =>
    rw [List.filterMap_cons, List.filterMap_cons]
    cases e : bs[(b + (k : Int) * c).toNat]? with
    | none =>
      have : row[(b + (k : Int) * c).toNat]? = none := by
        rw [List.getElem?_eq_none_iff] at e ⊢
        omega
      rw [this]
      exact ih
    | some x =>
      obtain ⟨u, e2, ru⟩ := h _ _ e
      rw [e2]
      refine ⟨by rw [List.length_cons, List.length_cons, ih.1], fun m b' hb => ?_⟩
      cases m with
      | zero =>
        cases hb
        exact ⟨u, rfl, ru⟩
      | succ m => exact ih.2 m b' hb
theorem pk3_pl {α : Type} (xs : List α) {j n : Nat} (hj : j < n) : Builtin.Slice.sliceAdjust (some (j : Int)) none (n : Int) (xs.length : Int) = (((min j xs.length : Nat) : Int), (xs.length : Int)) ∧ Builtin.Slice.slicePlaces ((min j xs.length : Nat) : Int) (xs.length : Int) (n : Int) = if j < xs.length then (xs.length - j - 1) / n + 1 else 0 := by
  have hn : (0 : Int) < (n : Int) := by omega
  have e1 : Builtin.Slice.sliceAdjust (some (j : Int)) none (n : Int) (xs.length : Int) = (((min j xs.length : Nat) : Int), (xs.length : Int)) := by
    unfold Builtin.Slice.sliceAdjust
    simp only [show ¬ ((n : Int) < 0) by omega, show ¬ ((j : Int) < 0) by omega, if_false]
    congr 1
    omega
  have e2 : Builtin.Slice.slicePlaces ((min j xs.length : Nat) : Int) (xs.length : Int) (n : Int) = if j < xs.length then (xs.length - j - 1) / n + 1 else 0 := by
    unfold Builtin.Slice.slicePlaces
    rw [if_pos (by omega)]
    by_cases c : j < xs.length
    · rw [if_pos c, if_pos (by omega)]
      have : (xs.length : Int) - ((min j xs.length : Nat) : Int) - 1 = ((xs.length - j - 1 : Nat) : Int) := by omega
      rw [this]
      exact Int.toNat_natCast ((xs.length - j - 1) / n + 1)
    · rw [if_neg c, if_neg (by omega)]
      rfl
  exact ⟨e1, e2⟩
theorem pk3_le {α : Type} (xs : List α) {j n : Nat} (hj : j < n) : (pk3 xs (some (j : Int)) none (n : Int)).length ≤ xs.length := by
  obtain ⟨e1, e2⟩ := pk3_pl xs hj
  refine Nat.le_trans (pk3_len xs _ _ _) ?_
  rw [e1]
  show Builtin.Slice.slicePlaces ((min j xs.length : Nat) : Int) (xs.length : Int) (n : Int) ≤ _
  rw [e2]
  split
  · have := Nat.div_le_self (xs.length - j - 1) n
    omega
  · omega
theorem pk3_mem {α : Type} (xs : List α) {j n : Nat} (hj : j < n) (t : α) : t ∈ pk3 xs (some (j : Int)) none (n : Int) ↔ ∃ i, i % n = j ∧ xs[i]? = some t := by
  obtain ⟨e1, e2⟩ := pk3_pl xs hj
  unfold pk3
  rw [e1]
  show t ∈ List.filterMap _ (List.range (Builtin.Slice.slicePlaces ((min j xs.length : Nat) : Int) (xs.length : Int) (n : Int))) ↔ _
  rw [e2, List.mem_filterMap]
  constructor
  · rintro ⟨k, hk, he⟩
    rw [List.mem_range] at hk
    by_cases c : j < xs.length
    · have e3 : (((min j xs.length : Nat) : Int) + (k : Int) * (n : Int)).toNat = j + k * n := by
        rw [show min j xs.length = j by omega, ← Int.natCast_mul]
        omega
      rw [e3] at he
      exact ⟨j + k * n, by rw [Nat.add_mul_mod_self_right, Nat.mod_eq_of_lt hj], he⟩
    · rw [if_neg c] at hk
      omega
  · rintro ⟨i, hi, he⟩
    have hil := (List.getElem?_eq_some_iff.mp he).1
    have hd := Nat.div_add_mod i n
    rw [hi] at hd
    have hjl : j < xs.length := by
      have : 0 ≤ n * (i / n) := Nat.zero_le _
      omega
    refine ⟨i / n, ?_, ?_⟩
    · rw [List.mem_range, if_pos hjl]
      have : i / n ≤ (xs.length - j - 1) / n := by
        rw [Nat.le_div_iff_mul_le (by omega), Nat.mul_comm]
        omega
      omega
    · have e3 : (((min j xs.length : Nat) : Int) + ((i / n : Nat) : Int) * (n : Int)).toNat = i := by
        rw [show min j xs.length = j by omega, ← Int.natCast_mul, Nat.mul_comm]
        omega
      rw [e3]
      exact he
def HidRow (n : Nat) (row row' : List (List Int)) : Prop := row'.length = n ∧ ∀ (j : Nat) (e : List Int), row'[j]? = some e → e.Pairwise (· < ·) ∧ ∀ t, t ∈ e ↔ ∃ i es, i % n = j ∧ row[i]? = some es ∧ t ∈ es
def Hid (n : Nat) (c c' : List (List (List Int))) : Prop := c'.length = c.length ∧ ∀ (i : Nat) (row' : List (List Int)), c'[i]? = some row' → ∃ row, c[i]? = some row ∧ HidRow n row row'
theorem hid_vld {n : Nat} {L : Int} {ini acc : List Int} {c c' : List (List (List Int))} (h : VldB L ini acc c) (hn : 1 ≤ n) (hd : Hid n c c') : VldB (n : Int) ini acc c' := by
  obtain ⟨h1, h2, h3, h4, h5⟩ := h
  refine ⟨by omega, fun z => h2 (List.length_eq_zero_iff.mp (by rw [← hd.1, z]; rfl)), by rw [hd.1]; exact h3, by rw [hd.1]; exact h4, fun q hq => ?_⟩
  obtain ⟨i, hi⟩ := List.mem_iff_getElem?.mp hq
  obtain ⟨row, hr, hrow⟩ := hd.2 i q hi
  refine ⟨by rw [hrow.1], fun e he => ?_⟩
  obtain ⟨j, hj⟩ := List.mem_iff_getElem?.mp he
  obtain ⟨p, m⟩ := hrow.2 j e hj
  refine ⟨p, fun x hx => ?_⟩
  obtain ⟨k, es, _, hk, hxs⟩ := (m x).mp hx
  rw [hd.1]
  exact ((h5 row (List.mem_of_getElem? hr)).2 es (List.mem_of_getElem? hk)).2 x hxs
theorem sl3_both {H4 : Hp} {a : Addr} {xs : List V} {Q : VK} {j n : Nat} {jj : Int} (hj : j < n) (ej : jj = (j : Int)) (hx : H4 a = some (.tup xs)) (hl : xs.length ≤ 100)
    (q : ∀ (p : Addr) (H' : Hp) (ys : List V), Same H4 H' → H' p = some (.tup ys) → (ys = pk3 xs (some (j : Int)) none (n : Int) ∨ (n = 1 ∧ ys = xs)) → Q (.ref p) H') :
    SlQ a xs (n : Int) (some jj) none H4 Q := by
  subst ej
  by_cases c : n = 1
  · subst c
    refine .inr ⟨rfl, by rw [show j = 0 by omega]; rfl, rfl, q a H4 xs (Same.refl _) hx (.inr ⟨rfl, rfl⟩)⟩
  · exact .inl ⟨by omega, Nat.le_trans (pk3_le xs hj) (Nat.le_trans hl (by decide)), fun p hp => q p _ _ (same_new hp) upd_same (.inl rfl)⟩
theorem asc_len_from : ∀ (xs : List Int) (a n : Int), xs.Pairwise (· < ·) → (∀ x ∈ xs, a ≤ x ∧ x < n) → (xs.length : Int) ≤ max 0 (n - a)
  | [], a, n, _, _ => by show (0 : Int) ≤ _; omega
  | x :: xs, a, n, h, hb => by
    rw [List.pairwise_cons] at h
    have ih := asc_len_from xs (x + 1) n h.2 fun y hy => by
      have h1 := h.1 y hy
      have h2 := hb y (List.mem_cons_of_mem _ hy)
      omega
    have hx := hb x List.mem_cons_self
    rw [List.length_cons]
    omega
theorem asc_len {n : Nat} {xs : List Int} (h : Asc (n : Int) xs) : xs.length ≤ n := by
  have := asc_len_from xs 0 n h.1 h.2
  omega
theorem flat_len : ∀ {es : List (List Int)} {k : Nat}, (∀ e ∈ es, e.length ≤ 7) → es.length ≤ k → es.flatten.length ≤ 7 * k
  | [], k, _, _ => by simp
  | e :: es, k, h, hk => by
    rw [List.flatten_cons, List.length_append]
    have h1 := h e List.mem_cons_self
    have h2 := flat_len (es := es) (k := es.length) (fun x hx => h x (List.mem_cons_of_mem _ hx)) (Nat.le_refl _)
    rw [List.length_cons] at hk
    omega
theorem ints_get {xs : List Int} {j : Nat} {y : V} (h : (xs.map V.int)[j]? = some y) : ∃ t, xs[j]? = some t ∧ y = V.int t := by
  rw [List.getElem?_map] at h
  cases e : xs[j]? with
  | none => rw [e] at h; cases h
  | some t => rw [e] at h; exact ⟨t, rfl, (Option.some.inj h).symm⟩
theorem snoc_get {α : Type} {xs : List α} {x y : α} {j : Nat} (h : (xs ++ [x])[j]? = some y) : (j < xs.length ∧ xs[j]? = some y) ∨ (j = xs.length ∧ y = x) := by
  rcases Nat.lt_or_ge j xs.length with c | c
  · rw [List.getElem?_append_left c] at h
    exact .inl ⟨c, h⟩
  · rw [List.getElem?_append_right c] at h
    have e : j - xs.length = 0 := by
      cases e : j - xs.length with
      | zero => rfl
      | succ m => rw [e] at h; cases h
    rw [e] at h
    cases h
    exact .inr ⟨by omega, rfl⟩
abbrev hScope : Scope := { kind := ScopeKind.function, names := [(".0", NameKind.local), ("letter", NameKind.local), ("sorted", NameKind.globalImplicit), ("set", NameKind.globalImplicit), ("letters", NameKind.cell), ("row", NameKind.cell)], isGenerator := false, isCoroutine := false }
def spHide (C cM : Addr) : Sp := fun vs H Q E => ∃ (x : Addr) (n L : Int) (ini acc : List Int) (c : List (List (List Int))), vs = [.ref x, .int n] ∧ AutAt C H x L ini acc c ∧ VldB L ini acc c ∧ c.length ≤ 7 ∧ L ≤ 8 ∧ n ≤ 100 ∧
  ((n < 1 ∨ L % n ≠ 0) → ∀ H', Same H H' → E (.ref cM) none H') ∧ (1 ≤ n → L % n = 0 → ∀ (H' : Hp) (y : Addr) (c' : List (List (List Int))), Same H H' → Hid n.toNat c c' → AutAt C H' y n ini acc c' → Q (.ref y) H')
theorem cal_hide {cM cI C fI : Addr} {fdI : FuncData} (T : Txt K mg) (eI : ErrC K mg "InvalidAutomaton" cI) (PC : AutC K C) (hM : Mk K C fI) (gC : mg "Automaton" = some (.ref C)) (F0 : L2.Fun K "__init__" "Automaton.__init__" s_Automaton_init fI fdI) (hB : Binds K fdI ["self", "letters", "initial", "accepting", "rows"] [])
    (eM : ErrC K mg "Mismatch" cM) : CalX P w K mg base 4 "hide" (spHide C cM) := by
  have MK : MakX P w K mg base 2 "Automaton" C (spInitS C cI) := ⟨fI, fdI, _, hM, ok_initS T eI PC F0, gC, hB⟩
  obtain ⟨f, fd, F, hm, hb⟩ := T.h_hide
  refine ⟨f, fd, _, F.okX sc_hide (fun vs H Q E h => ?_) (fun cdv A outer s H vs Q E hr h => ?_), hm, F.kp, hb⟩
  · obtain ⟨x, n, L, ini, acc, c, rfl, _⟩ := h
    rfl
  · obtain ⟨x, n, L, ini, acc, c, rfl, hA, hV, b1, b2, b3, qx, q⟩ := h
    refine ⟨_, (pss_cons
      (ps_if (PW.pt (pw_or (pt_cmpR op_lt (pv 1) pe_int (nomark _)) (pw_or1 (pt_cmpR op_ne (pe_op op_mod (pe_fld (pv 0) rfl) (pv 1)) pe_int (nomark _))))) (pss_one
      (ps_raise rfl (takes_of rfl rfl rfl rfl) (eM.made rfl))) pss_nil)
      (pss_cons
      (ps_set (i := 2) sc_hide.nd rfl (Or.inl rfl) (pe_lst pa_nil))
      (pss_cons
      (ps_for (passes_of rfl) rfl (pi_tup (pe_fld (pv 0) rfl)) (pg_name (i := 3) sc_hide.nd rfl (.inr rfl)) (pss_one
      (ps_expr (pe_bm PySem.F.plainAttrs_list PySem.F.slot_list_append PySem.F.type_list_append mt_append (pv 2) (pa_cons (pe_lc (own := [("letter", 4)]) (g := gName 4) (tt := tYes) rfl sc_hide.nd (pi_range1 (by rfl) T.z_range (pa_cons (pv 1) pa_nil)) (blkOk_by (N := N_hide) (sc := defScope s_hide) (by decide +kernel)) (fun _ _ _ _ _ => (pg_name (i := 4) sc_hide.nd rfl (Or.inl rfl))) (fun _ _ _ _ _ => pts_nil) (fun _ _ _ _ _ => (pe_callB (cr_sortedSet' (w := w) rfl rfl) (by rfl) T.z_sorted (by decide +kernel) (pa_cons (pe_callTy (cr_setLI (K := K) (w := w) rfl rfl rfl) (by rfl) T.z_set (by decide +kernel) (pa_cons (pe_lc2 (own := [("states", 5), ("state", 6)]) (vs1 := [6]) (g := gName 5) (g1 := gName 6) (tt := tYes) (tt1 := tYes) rfl sc_hide.nd (pi_tupK (K := K) rfl (pe_sl3W (K := K) rfl (pv 3) (po_some (pv 4)) po_none (po_some (pv 1)))) (blkOk_by (N := N_hide) (sc := hScope) (by decide +kernel)) (by decide) (fun _ _ _ _ _ => (pg_name (i := 5) sc_hide.nd rfl (Or.inl rfl))) (fun _ _ _ _ _ => pts_nil) (fun _ _ _ _ _ => (pi_tupK (K := K) rfl (pv 5))) (fun _ _ _ _ _ => (pg_name (i := 6) sc_hide.nd rfl (Or.inl rfl))) (fun _ _ _ _ _ => pts_nil) (fun _ _ _ _ _ => (pv 6))) pa_nil)) pa_nil)))) pa_nil)))))
      (pss_one
      (ps_ret (pe_makeN MK hr (by decide) (by rfl) (pa_cons (pv 1) (pa_cons (pe_fld (pv 0) rfl) (pa_cons (pe_fld (pv 0) rfl) (pa_cons (pv 2) pa_nil)))))))))), ?_⟩
    obtain ⟨dx, it, at_, rt, as, bss, e1, e2, e3, e4, e5⟩ := id hA
    have hL1 : 1 ≤ L := hV.1
    refine ⟨_, rfl, _, _, rfl, rfl, _, rfl, ite2 (fun k => ?_) (fun k => ?_)⟩
    · exact qx (.inl (of_decide_eq_true k)) H (Same.refl H)
    have hn1 : 1 ≤ n := by
      have : ¬ n < 1 := fun z => k (decide_eq_true z)
      omega
    refine ⟨_, rfl, x, C, dx, _, _, rfl, e1, PC.cl, PC.nL, bf_L _ _ _ _, _, rfl, _, _, rfl, rfl, by omega, rfl, _, rfl, ?_⟩
    refine ite_ne (fun k2 => qx (.inr k2) H (Same.refl H)) (fun k2 => ?_)
    refine ⟨Nat.zero_le _, fun R hR => ?_⟩
    obtain ⟨nn, rfl⟩ : ∃ nn : Nat, n = (nn : Int) := ⟨n.toNat, by omega⟩
    have hl2 : (as.map V.ref).length = c.length := by rw [List.length_map, (cub_len e5).1]
    have s0 := same_new (o := .lst []) hR
    have eR0 := upd_same (H := H) (a := R) (o := .lst [])
    generalize upd H R (.lst []) = H0 at s0 eR0 ⊢
    refine ⟨_, rfl, x, C, dx, _, _, rfl, s0 _ _ e1, PC.cl, PC.nR, bf_r _ _ _ _, rt, rfl, ⟨_, .of (s0 _ _ e4)⟩, for_tup (K := K) (a := rt) (xs := as.map V.ref) (fun i σ H' => ∃ (v3 v4 v5 v6 : Option V) (as2 : List Addr) (c' : List (List (List Int))), σ = [some (.ref x), some (.int (nn : Int)), some (.ref R), v3, v4, v5, v6] ∧ Same H H' ∧ H' R = some (.lst (as2.map V.ref)) ∧ as2.length = i ∧ c'.length = i ∧
      (∀ (j : Nat) (row' : List (List Int)), c'[j]? = some row' → ∃ row, c[j]? = some row ∧ HidRow nn row row') ∧
      ∀ (j : Nat) (a : Addr), as2[j]? = some a → a ≠ R ∧ ∃ (bs : List Addr) (row : List (List Int)), c'[j]? = some row ∧ H' a = some (.lst (bs.map V.ref)) ∧ bs.length = row.length ∧ ∀ (m : Nat) (b : Addr), bs[m]? = some b → b ≠ R ∧ ∃ e, row[m]? = some e ∧ SeqV H' b (e.map V.int))
      ⟨_, _, _, _, [], [], rfl, s0, eR0, rfl, rfl, (fun j r e => by cases e), fun j a e => by cases e⟩ (fun i σ H' _ ⟨_, _, _, _, _, _, _, z, _⟩ => .of (z _ _ e4)) ?_ ?_⟩
    · rintro i v σ H4 hi ⟨v3, v4, v5, v6, as2, c', rfl, s4, eR, hal, hcl, hcr, hrw⟩
      obtain ⟨a, haa, rfl⟩ := refs_get hi
      obtain ⟨bs, row, hbs, hrow, hra, hRw⟩ := cub_get e5 haa
      have hmem := List.mem_of_getElem? hrow
      have hrL := (hV.2.2.2.2 row hmem).1
      refine ⟨_, rfl, .inl ⟨rfl, _, .of eR⟩, ?_⟩
      have hnn : nn ≤ 100 := by omega
      have R4 := eR
      refine ⟨_, rfl, _, rfl, by omega, by omega, fun D hD => ?_⟩
      have nDR : D ≠ R := fun z => by rw [z, eR] at hD; cases hD
      refine lc_range (lo := 0) (n := nn) (fun m H5 => ∃ (cs : List Addr) (row' : List (List Int)), Same H4 H5 ∧ H5 D = some (.lst (cs.map V.ref)) ∧ cs.length = m ∧ row'.length = m ∧
        (∀ (j : Nat) (e : List Int), row'[j]? = some e → e.Pairwise (· < ·) ∧ ∀ t, t ∈ e ↔ ∃ i es, i % nn = j ∧ row[i]? = some es ∧ t ∈ es) ∧
        ∀ (j : Nat) (b : Addr), cs[j]? = some b → b ≠ R ∧ b ≠ D ∧ ∃ e, row'[j]? = some e ∧ H5 b = some (.lst (e.map V.int)))
        ⟨[], [], same_new hD, upd_same, rfl, rfl, (fun j e h => by cases h), fun j b h => by cases h⟩ ?_ ?_
      · rintro m H5 hm ⟨cs, row', s5, eD, hcs, hrl, hre, hcb⟩
        refine ⟨rfl, ?_⟩
        refine ⟨_, rfl, _, rfl, _, rfl, _, rfl, _, rfl, ?_⟩
        refine ⟨a, _, (nn : Int), rfl, rfl, .of (s5 _ _ (s4 _ _ hra)), by omega, ?_⟩
        have hbl : bs.length = row.length := hRw.len
        have hb100 : (bs.map V.ref).length ≤ 100 := by rw [List.length_map]; omega
        refine sl3_both (j := m) (jj := 0 + (m : Int)) hm (by omega) (s5 _ _ (s4 _ _ hra)) hb100 fun sb H6 ys s6 esb hys => ?_
        obtain ⟨pb, es, rfl, hpl, hpe, hpm⟩ : ∃ (pb : List Addr) (es : List (List Int)), ys = pb.map V.ref ∧ pb.length = es.length ∧ (∀ (m : Nat) (b : Addr), pb[m]? = some b → ∃ e, es[m]? = some e ∧ H6 b = some (.tup (e.map V.int))) ∧ ∀ e, e ∈ es ↔ ∃ i, i % nn = m ∧ row[i]? = some e := by
          have hR0 : ∀ (m : Nat) (b : Addr), bs[m]? = some b → ∃ e, row[m]? = some e ∧ H6 b = some (.tup (e.map V.int)) := fun m b hb => by
            obtain ⟨e, h1, h2⟩ := hRw.get hb
            exact ⟨e, h1, s6 _ _ (s5 _ _ (s4 _ _ h2))⟩
          rcases hys with rfl | ⟨h1, rfl⟩
          · obtain ⟨p1, p2⟩ := pk3_rel (R := fun b e => H6 b = some (.tup (e.map V.int))) hbl hR0 (some (m : Int)) none (nn : Int)
            exact ⟨pk3 bs (some (m : Int)) none (nn : Int), pk3 row (some (m : Int)) none (nn : Int), pk3_map _ _ _ _ _, p1, p2, fun e => pk3_mem row hm e⟩
          · refine ⟨bs, row, rfl, hbl, hR0, fun e => ?_⟩
            rw [List.mem_iff_getElem?]
            refine ⟨fun ⟨i, hi⟩ => ⟨i, by rw [h1, Nat.mod_one]; omega, hi⟩, fun ⟨i, _, hi⟩ => ⟨i, hi⟩⟩
        have hes : ∀ e, e ∈ es → e.length ≤ 7 := fun e he => by
          obtain ⟨i, _, hi⟩ := (hpm e).mp he
          have hA := (hV.2.2.2.2 row hmem).2 e (List.mem_of_getElem? hi)
          have := asc_len hA
          omega
        have h8 : es.length ≤ 8 := by
          have hb8 : (bs.map V.ref).length ≤ 8 := by rw [List.length_map]; omega
          rcases hys with h | ⟨_, h⟩
          · have h1 := congrArg List.length h
            rw [List.length_map] at h1
            have h2 := pk3_le (bs.map V.ref) hm
            omega
          · have h1 := congrArg List.length h
            rw [List.length_map] at h1
            omega
        refine ⟨sb, rfl, ⟨_, .of esb⟩, fun D2 hD2 => ?_⟩
        refine lc2_tup (K := K) (a := sb) (xs := pb.map V.ref) (fun q H7 => Same H6 H7 ∧ H7 D2 = some (.lst ((es.take q).flatten.map V.int))) ⟨same_new hD2, upd_same⟩ (fun q H7 _ ⟨s7, _⟩ => .of (s7 _ _ esb)) ?_ ?_
        · rintro q y H7 hy ⟨s7, e7⟩
          obtain ⟨b, hb, rfl⟩ := refs_get hy
          obtain ⟨e, he, hbe⟩ := hpe q b hb
          have hq := (List.getElem?_eq_some_iff.mp he).1
          have hfl : ((es.take q).flatten).length ≤ 7 * q := flat_len (fun e he => hes e (List.mem_of_mem_take he)) (by rw [List.length_take]; omega)
          have hel := hes e (List.mem_of_getElem? he)
          refine ⟨rfl, _, rfl, b, rfl, ⟨_, .of (s7 _ _ hbe)⟩, ?_⟩
          refine lc2_in (K := K) (b := b) (ys := e.map V.int) (fun j H8 => Same H6 H8 ∧ H8 D2 = some (.lst (((es.take q).flatten ++ e.take j).map V.int))) ⟨s7, by rw [List.take_zero, List.append_nil]; exact e7⟩ (fun j H8 _ ⟨s8, _⟩ => .of (s8 _ _ hbe)) ?_ ?_
          · rintro j y H8 hy ⟨s8, e8⟩
            obtain ⟨t, ht, rfl⟩ := ints_get hy
            refine ⟨rfl, _, rfl, _, e8, ?_, fun c u hc => ?_, ?_⟩
            · rw [List.length_map, List.length_append, List.length_take]
              exact Nat.lt_of_le_of_lt (show _ ≤ 1000 by omega) (by decide)
            · rw [upd_ne (ne_of_none hc hD2)]
              exact s8 _ _ hc
            · rw [upd_same, List.take_add_one, ht, Option.toList_some, ← List.append_assoc, List.map_append (l₂ := [t])]
              rfl
          · rintro H8 ⟨s8, e8⟩
            rw [List.length_map, List.take_length] at e8
            refine ⟨s8, ?_⟩
            rw [e8, List.take_add_one, he, Option.toList_some, List.flatten_append]
            simp
        · rintro H7 ⟨s7, e7⟩
          rw [List.length_map, hpl, List.take_length] at e7
          have hfl : es.flatten.length ≤ 56 := by
            have := flat_len (k := es.length) hes (Nat.le_refl _)
            omega
          refine ⟨D2, es.flatten, rfl, .of e7, Nat.lt_of_le_of_lt (show _ ≤ 57 by omega) (by decide), fun p cc hp hcc => ?_⟩
          refine ⟨p, _, cc, rfl, upd_same, by omega, fun ns p2 hpw hmm hnl hp2 => ?_⟩
          have s8 := ((s6.trans s7).trans (same_new (o := SetO w p (fun j => decide (j ∈ es.flatten)) cc) hp)).trans (same_new (o := .lst (ns.map V.int)) hp2)
          generalize hH8 : upd (upd H7 p (SetO w p (fun j => decide (j ∈ es.flatten)) cc)) p2 (.lst (ns.map V.int)) = H8 at s8
          have ep2 : H8 p2 = some (.lst (ns.map V.int)) := by rw [← hH8]; exact upd_same
          have hp20 : H5 p2 = none := ((s6.trans s7).trans (same_new (o := SetO w p (fun j => decide (j ∈ es.flatten)) cc) hp)).free hp2
          have np2D : p2 ≠ D := fun z => by rw [z, eD] at hp20; cases hp20
          have np2R : p2 ≠ R := fun z => by rw [z, s5 _ _ eR] at hp20; cases hp20
          refine ⟨_, s8 _ _ eD, by rw [List.length_map, hcs]; exact Nat.lt_of_le_of_lt (show m ≤ 100 by omega) (by decide), cs ++ [p2], row' ++ [ns], fun c u hc => ?_, ?_, by rw [List.length_append, hcs]; rfl, by rw [List.length_append, hrl]; rfl, fun j e hj => ?_, fun j b hj => ?_⟩
          · rw [upd_ne (ne_of_none hc hD)]
            exact s8 _ _ (s5 _ _ hc)
          · rw [upd_same, List.map_append]
            rfl
          · rcases snoc_get hj with ⟨_, h⟩ | ⟨h1, h2⟩
            · exact hre j e h
            · subst h2
              rw [hrl] at h1
              refine ⟨hpw, fun t => ?_⟩
              rw [hmm, decide_eq_true_iff, List.mem_flatten]
              rw [h1]
              exact ⟨fun ⟨e, h3, h4⟩ => by obtain ⟨i, h5, h6⟩ := (hpm e).mp h3; exact ⟨i, e, h5, h6, h4⟩, fun ⟨i, e, h5, h6, h4⟩ => ⟨e, (hpm e).mpr ⟨i, h5, h6⟩, h4⟩⟩
          · rcases snoc_get hj with ⟨h0, h⟩ | ⟨h1, h2⟩
            · obtain ⟨g1, g2, e, g3, g4⟩ := hcb j b h
              refine ⟨g1, g2, e, ?_, ?_⟩
              · rw [List.getElem?_append_left (by omega)]
                exact g3
              · rw [upd_ne g2]
                exact s8 _ _ g4
            · subst h2
              refine ⟨np2R, np2D, ns, ?_, ?_⟩
              · rw [List.getElem?_append_right (by omega), show j - row'.length = 0 by omega]
                rfl
              · rw [upd_ne np2D]
                exact ep2
      · rintro H5 ⟨cs, row', s5, eD, hcs, hrl, hre, hcb⟩
        refine ⟨R, _, _, rfl, rfl, s5 _ _ eR, by rw [List.length_map, hal]; exact Nat.lt_of_le_of_lt (show i ≤ 100 by have := (List.getElem?_eq_some_iff.mp hrow).1; omega) (by decide), ?_⟩
        have k6 : Kp R H5 (upd H5 R (.lst (as2.map V.ref ++ [.ref D]))) := Kp.own
        have eR6 := upd_same (H := H5) (a := R) (o := .lst (as2.map V.ref ++ [.ref D]))
        generalize upd H5 R (.lst (as2.map V.ref ++ [.ref D])) = H6 at k6 eR6 ⊢
        refine ⟨_, _, _, _, as2 ++ [D], c' ++ [row'], rfl, fun b u hb => k6 _ _ (ne_of_none hb hR) (s5 _ _ (s4 _ _ hb)), by rw [eR6, List.map_append]; rfl, by rw [List.length_append, hal]; rfl, by rw [List.length_append, hcl]; rfl, fun j r hj => ?_, fun j a' hj => ?_⟩
        · rcases snoc_get hj with ⟨h0, h⟩ | ⟨h1, h2⟩
          · exact hcr j r h
          · subst h2
            rw [h1, hcl]
            exact ⟨row, hrow, hrl, hre⟩
        · rcases snoc_get hj with ⟨h0, h⟩ | ⟨h1, h2⟩
          · obtain ⟨g1, bs', r', g2, g3, g4, g5⟩ := hrw j a' h
            refine ⟨g1, bs', r', by rw [List.getElem?_append_left (by omega)]; exact g2, k6 _ _ g1 (s5 _ _ g3), g4, fun m b hb => ?_⟩
            obtain ⟨g6, e, g7, g8⟩ := g5 m b hb
            exact ⟨g6, e, g7, g8.elim (fun z => .inl (k6 _ _ g6 (s5 _ _ z))) (fun z => .inr (k6 _ _ g6 (s5 _ _ z)))⟩
          · subst h2
            refine ⟨nDR, cs, row', by rw [List.getElem?_append_right (by omega), show j - c'.length = 0 by omega]; rfl, k6 _ _ nDR eD, by omega, fun m b hb => ?_⟩
            obtain ⟨g1, g2, e, g3, g4⟩ := hcb m b hb
            exact ⟨g1, e, g3, .inl (k6 _ _ g1 g4)⟩
    · rintro σ H4 ⟨v3, v4, v5, v6, as2, c', rfl, s4, eR, hal, hcl, hcr, hrw⟩
      rw [hl2] at hal hcl
      have hHid : Hid nn c c' := ⟨hcl, hcr⟩
      have hVl := hid_vld hV (by omega) hHid
      refine ⟨_, rfl, _, rfl, x, C, dx, _, _, rfl, s4 _ _ e1, PC.cl, PC.nI, bf_i _ _ _ _, _, rfl, x, C, dx, _, _, rfl, s4 _ _ e1, PC.cl, PC.nA, bf_a _ _ _ _, _, rfl, fun y dy hy hdy hne => ?_⟩
      have s5 := same_fresh (C := C) hy hdy
      refine ⟨y, it, at_, R, dy, (nn : Int), ini, acc, as2, c', rfl, upd_same, .inr (s5 _ _ (s4 _ _ e2)), .inr (s5 _ _ (s4 _ _ e3)), ⟨s5 _ _ eR, by rw [hal, hcl], fun j a hja => ?_⟩, by rw [hcl]; omega, fun r hr => ?_, fun z => absurd hVl z, fun _ H6 k6 A6 => ⟨rfl, ?_⟩⟩
      · obtain ⟨_, bs, row, h1, h2, h3, h4⟩ := hrw j a hja
        exact ⟨bs, row, h1, s5 _ _ h2, h3, fun m b hb => by obtain ⟨_, e, h5, h6⟩ := h4 m b hb; exact ⟨e, h5, h6.same s5⟩⟩
      · have := (hVl.2.2.2.2 r hr).1
        omega
      · exact q hn1 k2 H6 y c' (s4.trans (same_made hy hdy k6)) hHid A6
def HOutV (C : Addr) (H' : Hp) (hv : V) (n L : Int) (ini acc : List Int) (c : List (List (List Int))) : Prop := (hv = .non ∧ (n < 1 ∨ L % n ≠ 0)) ∨ ∃ (y : Addr) (c' : List (List (List Int))), hv = .ref y ∧ 1 ≤ n ∧ L % n = 0 ∧ Hid n.toNat c c' ∧ AutAt C H' y n ini acc c'
def WOutV (C : Addr) (H' : Hp) (hv : V) (n L : Int) (ini acc : List Int) (c : List (List (List Int))) : Prop := (hv = .non ∧ (n < 1 ∨ n % L ≠ 0)) ∨ ∃ (y : Addr), hv = .ref y ∧ 1 ≤ n ∧ n % L = 0 ∧ AutAt C H' y n ini acc (wdn (n / L).toNat c)
def spHOut (C : Addr) : Sp := fun vs H Q _ => ∃ (x : Addr) (n L : Int) (ini acc : List Int) (c : List (List (List Int))), vs = [.ref x, .int n] ∧ AutAt C H x L ini acc c ∧ VldB L ini acc c ∧ c.length ≤ 7 ∧ L ≤ 8 ∧ n ≤ 100 ∧
  ∀ (H' : Hp) (hv : V), Same H H' → HOutV C H' hv n L ini acc c → Q hv H'
def spWOut2 (C : Addr) : Sp := fun vs H Q _ => ∃ (x : Addr) (n L : Int) (ini acc : List Int) (c : List (List (List Int))), vs = [.ref x, .int n] ∧ AutAt C H x L ini acc c ∧ VldB L ini acc c ∧ c.length ≤ 100 ∧ L ≤ 100 ∧ n ≤ 100 ∧
  ∀ (H' : Hp) (hv : V), Same H H' → WOutV C H' hv n L ini acc c → Q hv H'
theorem cal_wout2 {cM cI C fI : Addr} {fdI : FuncData} (T : Txt K mg) (eI : ErrC K mg "InvalidAutomaton" cI) (PC : AutC K C) (hM : Mk K C fI) (gC : mg "Automaton" = some (.ref C)) (F0 : L2.Fun K "__init__" "Automaton.__init__" s_Automaton_init fI fdI) (hB : Binds K fdI ["self", "letters", "initial", "accepting", "rows"] [])
    (eM : ErrC K mg "Mismatch" cM) : C8.Cal P w K mg base 5 "_law_widen_outcome" (spWOut2 C) [] := by
  have X_widen : CalX P w K mg base 4 "widen" (spWiden C cM) := cal_widen T eI PC hM gC F0 hB eM
  obtain ⟨f, fd, F, hm, hb⟩ := T.h_law_widen_outcome
  refine ⟨f, fd, _, [], F.ok sc_law_widen_outcome (fun vs H Q E h => ?_) (fun cdv A outer s H vs Q E hr h => ?_), hm, F.kp, hb, .nil⟩
  · obtain ⟨x, n, L, ini, acc, c, rfl, _⟩ := h
    rfl
  · obtain ⟨x, n, L, ini, acc, c, rfl, hA, hV, b1, b2, b3, q⟩ := h
    refine ⟨_, (pss_one
      (ps_try_only rfl rfl ⟨rfl, by decide, .inl eM.g⟩ takes0 (fun W pn xe tk _ => (pss_one (ps_ret (pe_cx X_widen hr (by decide) tk (by rfl) (pa_cons (pv 0) (pa_cons (pv 1) pa_nil)))))) (fun a oe cls d pn hz hf => (pss_one
      (ps_ret pe_non))))), ?_⟩
    exact ⟨_, rfl, _, rfl, x, n, L, ini, acc, c, rfl, hA, hV, b1, b2, b3, fun z H' s' => ⟨true, eM.me, fun _ a ha => q H' _ s' (.inl ⟨rfl, z⟩), fun y => by cases y⟩, fun z1 z2 H' y s' A' => q H' _ s' (.inr ⟨y, rfl, z1, z2, A'⟩)⟩
theorem cal_hout {cM cI C fI : Addr} {fdI : FuncData} (T : Txt K mg) (eI : ErrC K mg "InvalidAutomaton" cI) (PC : AutC K C) (hM : Mk K C fI) (gC : mg "Automaton" = some (.ref C)) (F0 : L2.Fun K "__init__" "Automaton.__init__" s_Automaton_init fI fdI) (hB : Binds K fdI ["self", "letters", "initial", "accepting", "rows"] [])
    (eM : ErrC K mg "Mismatch" cM) : C8.Cal P w K mg base 5 "_law_hide_outcome" (spHOut C) [] := by
  have X_hide : CalX P w K mg base 4 "hide" (spHide C cM) := cal_hide T eI PC hM gC F0 hB eM
  obtain ⟨f, fd, F, hm, hb⟩ := T.h_law_hide_outcome
  refine ⟨f, fd, _, [], F.ok sc_law_hide_outcome (fun vs H Q E h => ?_) (fun cdv A outer s H vs Q E hr h => ?_), hm, F.kp, hb, .nil⟩
  · obtain ⟨x, n, L, ini, acc, c, rfl, _⟩ := h
    rfl
  · obtain ⟨x, n, L, ini, acc, c, rfl, hA, hV, b1, b2, b3, q⟩ := h
    refine ⟨_, (pss_one
      (ps_try_only rfl rfl ⟨rfl, by decide, .inl eM.g⟩ takes0 (fun W pn xe tk _ => (pss_one (ps_ret (pe_cx X_hide hr (by decide) tk (by rfl) (pa_cons (pv 0) (pa_cons (pv 1) pa_nil)))))) (fun a oe cls d pn hz hf => (pss_one
      (ps_ret pe_non))))), ?_⟩
    exact ⟨_, rfl, _, rfl, x, n, L, ini, acc, c, rfl, hA, hV, b1, b2, b3, fun z H' s' => ⟨true, eM.me, fun _ a ha => q H' _ s' (.inl ⟨rfl, z⟩), fun y => by cases y⟩, fun z1 z2 H' y c' s' h A' => q H' _ s' (.inr ⟨y, c', rfl, z1, z2, h, A'⟩)⟩
def MrgRow (n : Nat) (row row' : List (List Int)) : Prop := row'.length = n ∧ ∀ (j : Nat) (e : List Int), row'[j]? = some e → e.length ≤ 1000 ∧ ∀ t, t ∈ e ↔ ∃ i es, i % n = j ∧ row[i]? = some es ∧ t ∈ es
def Mrg (n : Nat) (c c' : List (List (List Int))) : Prop := c'.length = c.length ∧ ∀ (i : Nat) (row' : List (List Int)), c'[i]? = some row' → ∃ row, c[i]? = some row ∧ MrgRow n row row'
def spMerged (K : PySem.W.Frag) : Sp := fun vs H Q _ => ∃ (r : Addr) (as : List Addr) (bss : List (List Addr)) (c : List (List (List Int))) (n : Int), vs = [.ref r, .int n] ∧ LC H r as bss c ∧ 1 ≤ n ∧ n ≤ 100 ∧ c.length ≤ 7 ∧ (∀ row ∈ c, row.length ≤ 8 ∧ ∀ e ∈ row, e.length ≤ 100) ∧
  ∀ (H' : Hp) (p : Addr) (c' : List (List (List Int))), Same H H' → Mrg n.toNat c c' → Sq3 K H' p c' → Q (.ref p) H'
theorem cal_merged (T : Txt K mg) : C8.Cal P w K mg base 1 "_law_merged" (spMerged K) [] := by
  obtain ⟨f, fd, F, hm, hb⟩ := T.h_law_merged
  refine ⟨f, fd, _, [], F.ok sc_law_merged (fun vs H Q E h => ?_) (fun cdv A outer s H vs Q E hr h => ?_), hm, F.kp, hb, .nil⟩
  · obtain ⟨r, as, bss, c, n, rfl, _⟩ := h
    rfl
  · obtain ⟨r, as, bss, c, n, rfl, hC, hn1, hn2, hc, hrw0, q⟩ := h
    refine ⟨_, (pss_cons
      (ps_set (i := 2) sc_law_merged.nd rfl (Or.inl rfl) (pe_lst pa_nil))
      (pss_cons
      (ps_for PassesOwn.never rfl (pi_list (pv 0)) (pg_name (i := 3) sc_law_merged.nd rfl (.inl rfl)) (pss_cons
      (ps_set (i := 4) sc_law_merged.nd rfl (Or.inl rfl) (pe_lst pa_nil))
      (pss_cons
      (ps_for PassesOwn.never rfl (pi_range1 (by rfl) T.z_range (pa_cons (pv 1) pa_nil)) (pg_name (i := 5) sc_law_merged.nd rfl (.inl rfl)) (pss_cons
      (ps_set (i := 6) sc_law_merged.nd rfl (Or.inl rfl) (pe_lst pa_nil))
      (pss_cons
      (ps_for PassesOwn.never rfl (pi_range1 (by rfl) T.z_range (pa_cons (pe_callB (call_lenK (K := K) rfl) (by rfl) T.z_len PySem.boot_len (pa_cons (pv 3) pa_nil)) pa_nil)) (pg_name (i := 7) sc_law_merged.nd rfl (.inl rfl)) (pss_one
      (ps_if (pt_cmpR op_eq (pe_op op_mod (pv 7) (pv 1)) (pv 5) (nomark _)) (pss_one
      (ps_set (i := 6) sc_law_merged.nd rfl (Or.inl rfl) (pe_op op_cat (pv 6) (pe_ix (ix_listK (K := K) rfl) (pv 3) (pv 7) (fun _ _ => rfl))))) pss_nil)))
      (pss_one
      (ps_expr (pe_bm PySem.F.plainAttrs_list PySem.F.slot_list_append PySem.F.type_list_append mt_append (pv 4) (pa_cons (pv 6) pa_nil)))))))
      (pss_one
      (ps_expr (pe_bm PySem.F.plainAttrs_list PySem.F.slot_list_append PySem.F.type_list_append mt_append (pv 2) (pa_cons (pv 4) pa_nil)))))))
      (pss_one
      (ps_ret (pv 2))))), ?_⟩
    obtain ⟨nn, rfl⟩ : ∃ nn : Nat, n = (nn : Int) := ⟨n.toNat, by omega⟩
    obtain ⟨e4, e5⟩ := hC
    have hl2 : (as.map V.ref).length = c.length := by rw [List.length_map, (cub_len e5).1]
    refine ⟨Nat.zero_le _, fun F0 hF => ?_⟩
    have s0 := same_new (o := .lst []) hF
    have eF0 := upd_same (H := H) (a := F0) (o := .lst [])
    generalize upd H F0 (.lst []) = H0 at s0 eF0 ⊢
    refine ⟨_, rfl, r, rfl, ⟨_, .of (s0 _ _ e4)⟩, for_list (K := K) (a := r) (xs := as.map V.ref) (fun i σ H' => ∃ (v3 v4 v5 v6 v7 : Option V) (as2 : List Addr) (c' : List (List (List Int))), σ = [some (.ref r), some (.int (nn : Int)), some (.ref F0), v3, v4, v5, v6, v7] ∧ Same H H' ∧ H' F0 = some (.lst (as2.map V.ref)) ∧ as2.length = i ∧ c'.length = i ∧
      (∀ (j : Nat) (row' : List (List Int)), c'[j]? = some row' → ∃ row, c[j]? = some row ∧ MrgRow nn row row') ∧
      ∀ (j : Nat) (a : Addr), as2[j]? = some a → a ≠ F0 ∧ ∃ (bs : List Addr) (row : List (List Int)), c'[j]? = some row ∧ H' a = some (.lst (bs.map V.ref)) ∧ bs.length = row.length ∧ ∀ (m : Nat) (b : Addr), bs[m]? = some b → b ≠ F0 ∧ ∃ e, row[m]? = some e ∧ H' b = some (.lst (e.map V.int)))
      ⟨_, _, _, _, _, [], [], rfl, s0, eF0, rfl, rfl, (fun j r e => by cases e), fun j a e => by cases e⟩ (fun i σ H' _ ⟨_, _, _, _, _, _, _, _, z, _⟩ => .of (z _ _ e4)) ?_ ?_⟩
    · rintro i v σ H4 hi ⟨v3, v4, v5, v6, v7, as2, c', rfl, s4, eF, hal, hcl, hcr, hrw⟩
      obtain ⟨a, haa, rfl⟩ := refs_get hi
      obtain ⟨bs, row, hbs, hrow, hra, hRw⟩ := cub_get e5 haa
      have hmem := List.mem_of_getElem? hrow
      obtain ⟨hrL, hrE⟩ := hrw0 row hmem
      have hbl : bs.length = row.length := hRw.len
      refine ⟨Nat.zero_le _, fun M hM => ?_⟩
      have nMF : M ≠ F0 := fun z => by rw [z, eF] at hM; cases hM
      refine ⟨_, rfl, _, rfl, by omega, by omega, ?_⟩
      refine for_range (lo := 0) (n := nn) (fun m σ H5 => ∃ (v5 v6 v7 : Option V) (cs : List Addr) (row' : List (List Int)), σ = [some (.ref r), some (.int (nn : Int)), some (.ref F0), some (.ref a), some (.ref M), v5, v6, v7] ∧ Same H4 H5 ∧ H5 M = some (.lst (cs.map V.ref)) ∧ cs.length = m ∧ row'.length = m ∧
        (∀ (j : Nat) (e : List Int), row'[j]? = some e → e.length ≤ 1000 ∧ ∀ t, t ∈ e ↔ ∃ i es, i % nn = j ∧ row[i]? = some es ∧ t ∈ es) ∧
        ∀ (j : Nat) (b : Addr), cs[j]? = some b → b ≠ F0 ∧ b ≠ M ∧ ∃ e, row'[j]? = some e ∧ H5 b = some (.lst (e.map V.int)))
        ⟨_, _, _, [], [], rfl, same_new hM, upd_same, rfl, rfl, (fun j e h => by cases h), fun j b h => by cases h⟩ ?_ ?_
      · rintro m σ H5 hm ⟨v5, v6, v7, cs, row', rfl, s5, eM, hcs, hrl, hre, hcb⟩
        refine ⟨Nat.zero_le _, fun T0 hT => ?_⟩
        have s6 := same_new (o := .lst []) hT
        have eT0 := upd_same (H := H5) (a := T0) (o := .lst [])
        generalize upd H5 T0 (.lst []) = H6 at s6 eT0 ⊢
        refine ⟨_, rfl, a, _, rfl, .inl (.of (s6 _ _ (s5 _ _ (s4 _ _ hra)))), _, rfl, ?_, ?_, ?_⟩
        · rw [List.length_map]; omega
        · rw [List.length_map]; omega
        rw [List.length_map, hbl, Int.toNat_natCast]
        refine for_range (lo := 0) (n := row.length) (fun q σ H7 => ∃ (v7 : Option V) (T1 : Addr) (e : List Int), σ = [some (.ref r), some (.int (nn : Int)), some (.ref F0), some (.ref a), some (.ref M), some (.int (0 + (m : Int))), some (.ref T1), v7] ∧ Same H5 H7 ∧ H5 T1 = none ∧ H7 T1 = some (.lst (e.map V.int)) ∧ e.length ≤ 100 * q ∧
          ∀ t, t ∈ e ↔ ∃ i es, i < q ∧ i % nn = m ∧ row[i]? = some es ∧ t ∈ es)
          ⟨_, T0, [], rfl, s6, hT, eT0, Nat.le_refl _, fun t => ⟨(fun h => by cases h), fun h => by obtain ⟨i, _, h, _⟩ := h; exact absurd h (Nat.not_lt_zero _)⟩⟩ ?_ ?_
        · clear s6 eT0
          rintro q σ H7 hq ⟨v7, T1, e, rfl, s7, hT1, eT, hel, hmm⟩
          have hmod : (0 + (q : Int)) % (nn : Int) = ((q % nn : Nat) : Int) := by rw [Int.zero_add]; rfl
          obtain ⟨eq_, heq⟩ : ∃ eq_, row[q]? = some eq_ := ⟨_, List.getElem?_eq_getElem hq⟩
          have heql := hrE eq_ (List.mem_of_getElem? heq)
          refine ⟨_, rfl, _, rfl, _, _, rfl, rfl, by omega, _, rfl, rfl, _, rfl, ite_eq (fun k => ?_) (fun k => ?_)⟩
          · rw [hmod] at k
            obtain ⟨b, hb, hbe⟩ : ∃ b, bs[q]? = some b ∧ H a = H a ∧ True := ⟨_, List.getElem?_eq_getElem (by omega), rfl, trivial⟩
            obtain ⟨e', he', hbe⟩ := hRw.get hb
            rw [heq] at he'
            cases he'
            have hb7 := s7 _ _ (s5 _ _ (s4 _ _ hbe))
            refine ⟨_, rfl, _, rfl, _, rfl, a, _, _, _, rfl, rfl, .of (s7 _ _ (s5 _ _ (s4 _ _ hra))), by rw [Int.zero_add]; exact atI_nat (by rw [List.getElem?_map, hb]; rfl), T1, b, _, _, rfl, rfl, eT, hb7, by rw [List.length_map, List.length_map]; exact Nat.le_trans (show _ ≤ 1000 by omega) (by decide), fun T2 hT2 => ?_⟩
            have s8 := same_new (o := .lst (e.map V.int ++ eq_.map V.int)) hT2
            refine ⟨_, T2, e ++ eq_, rfl, s7.trans s8, s7.free hT2, by rw [upd_same, List.map_append], by rw [List.length_append]; omega, fun t => ?_⟩
            rw [List.mem_append, hmm]
            constructor
            · rintro (⟨i, es, h1, h2, h3, h4⟩ | h)
              · exact ⟨i, es, by omega, h2, h3, h4⟩
              · exact ⟨q, eq_, by omega, by omega, heq, h⟩
            · rintro ⟨i, es, h1, h2, h3, h4⟩
              rcases Nat.lt_or_ge i q with y | y
              · exact .inl ⟨i, es, y, h2, h3, h4⟩
              · have : i = q := by omega
                subst this
                rw [heq] at h3
                cases h3
                exact .inr h4
          · rw [hmod] at k
            refine ⟨_, T1, e, rfl, s7, hT1, eT, by omega, fun t => ?_⟩
            rw [hmm]
            constructor
            · rintro ⟨i, es, h1, h2, h3, h4⟩
              exact ⟨i, es, by omega, h2, h3, h4⟩
            · rintro ⟨i, es, h1, h2, h3, h4⟩
              refine ⟨i, es, ?_, h2, h3, h4⟩
              have : i ≠ q := fun z => by subst z; omega
              omega
        · rintro σ H7 ⟨v7, T1, e, rfl, s7, hT1, eT, hel, hmm⟩
          have nTM : T1 ≠ M := fun z => by rw [z, eM] at hT1; cases hT1
          have nTF : T1 ≠ F0 := fun z => by rw [z, s5 _ _ eF] at hT1; cases hT1
          refine ⟨_, rfl, .inl ⟨rfl, _, .of (s7 _ _ eM)⟩, _, rfl, M, _, _, rfl, rfl, s7 _ _ eM, by rw [List.length_map, hcs]; exact Nat.lt_of_le_of_lt (show m ≤ 100 by omega) (by decide), ?_⟩
          have k6 : Kp M H7 (upd H7 M (.lst (cs.map V.ref ++ [.ref T1]))) := Kp.own
          have eM6 := upd_same (H := H7) (a := M) (o := .lst (cs.map V.ref ++ [.ref T1]))
          generalize upd H7 M (.lst (cs.map V.ref ++ [.ref T1])) = H6 at k6 eM6 ⊢
          refine ⟨_, _, _, cs ++ [T1], row' ++ [e], rfl, fun b u hb => k6 _ _ (ne_of_none hb hM) (s7 _ _ (s5 _ _ hb)), by rw [eM6, List.map_append]; rfl, by rw [List.length_append, hcs]; rfl, by rw [List.length_append, hrl]; rfl, fun j e' hj => ?_, fun j b hj => ?_⟩
          · rcases snoc_get hj with ⟨_, h⟩ | ⟨h1, h2⟩
            · exact hre j e' h
            · subst h2
              rw [hrl] at h1
              refine ⟨by omega, fun t => ?_⟩
              rw [hmm, h1]
              constructor
              · rintro ⟨i, es, h1, h2, h3, h4⟩
                exact ⟨i, es, h2, h3, h4⟩
              · rintro ⟨i, es, h2, h3, h4⟩
                exact ⟨i, es, (List.getElem?_eq_some_iff.mp h3).1, h2, h3, h4⟩
          · rcases snoc_get hj with ⟨h0, h⟩ | ⟨h1, h2⟩
            · obtain ⟨g1, g2, e', g3, g4⟩ := hcb j b h
              exact ⟨g1, g2, e', by rw [List.getElem?_append_left (by omega)]; exact g3, k6 _ _ g2 (s7 _ _ g4)⟩
            · subst h2
              exact ⟨nTF, nTM, e, by rw [List.getElem?_append_right (by omega), show j - row'.length = 0 by omega]; rfl, k6 _ _ nTM eT⟩
      · rintro σ H5 ⟨v5, v6, v7, cs, row', rfl, s5, eM, hcs, hrl, hre, hcb⟩
        refine ⟨_, rfl, .inl ⟨rfl, _, .of (s5 _ _ eF)⟩, _, rfl, F0, _, _, rfl, rfl, s5 _ _ eF, by rw [List.length_map, hal]; exact Nat.lt_of_le_of_lt (show i ≤ 100 by have := (List.getElem?_eq_some_iff.mp hrow).1; omega) (by decide), ?_⟩
        have k6 : Kp F0 H5 (upd H5 F0 (.lst (as2.map V.ref ++ [.ref M]))) := Kp.own
        have eF6 := upd_same (H := H5) (a := F0) (o := .lst (as2.map V.ref ++ [.ref M]))
        generalize upd H5 F0 (.lst (as2.map V.ref ++ [.ref M])) = H6 at k6 eF6 ⊢
        refine ⟨_, _, _, _, _, as2 ++ [M], c' ++ [row'], rfl, fun b u hb => k6 _ _ (ne_of_none hb hF) (s5 _ _ (s4 _ _ hb)), by rw [eF6, List.map_append]; rfl, by rw [List.length_append, hal]; rfl, by rw [List.length_append, hcl]; rfl, fun j r' hj => ?_, fun j a' hj => ?_⟩
        · rcases snoc_get hj with ⟨h0, h⟩ | ⟨h1, h2⟩
          · exact hcr j r' h
          · subst h2
            rw [h1, hcl]
            exact ⟨row, hrow, hrl, hre⟩
        · rcases snoc_get hj with ⟨h0, h⟩ | ⟨h1, h2⟩
          · obtain ⟨g1, bs', r', g2, g3, g4, g5⟩ := hrw j a' h
            refine ⟨g1, bs', r', by rw [List.getElem?_append_left (by omega)]; exact g2, k6 _ _ g1 (s5 _ _ g3), g4, fun m b hb => ?_⟩
            obtain ⟨g6, e, g7, g8⟩ := g5 m b hb
            exact ⟨g6, e, g7, k6 _ _ g6 (s5 _ _ g8)⟩
          · subst h2
            refine ⟨nMF, cs, row', by rw [List.getElem?_append_right (by omega), show j - c'.length = 0 by omega]; rfl, k6 _ _ nMF eM, by omega, fun m b hb => ?_⟩
            obtain ⟨g1, g2, e, g3, g4⟩ := hcb m b hb
            exact ⟨g1, e, g3, k6 _ _ g1 g4⟩
    · rintro σ H4 ⟨v3, v4, v5, v6, v7, as2, c', rfl, s4, eF, hal, hcl, hcr, hrw⟩
      rw [hl2] at hal hcl
      refine ⟨_, rfl, q H4 F0 c' s4 ⟨hcl, hcr⟩ ⟨_, .inl (.of eF), by rw [List.length_map, hal, hcl], fun i row hi => ?_⟩⟩
      have hil := (List.getElem?_eq_some_iff.mp hi).1
      obtain ⟨a, ha⟩ : ∃ a, as2[i]? = some a := ⟨_, List.getElem?_eq_getElem (by omega)⟩
      obtain ⟨_, bs, row2, h1, h2, h3, h4⟩ := hrw i a ha
      rw [hi] at h1
      cases h1
      refine ⟨.ref a, by rw [List.getElem?_map, ha]; rfl, a, _, rfl, .inl (.of h2), by rw [List.length_map, h3], fun j ts hj => ?_⟩
      have hjl := (List.getElem?_eq_some_iff.mp hj).1
      obtain ⟨b, hb⟩ : ∃ b, bs[j]? = some b := ⟨_, List.getElem?_eq_getElem (by omega)⟩
      obtain ⟨_, e, h5, h6⟩ := h4 j b hb
      rw [hj] at h5
      cases h5
      exact ⟨b, by rw [List.getElem?_map, hb]; rfl, .inl (.of h6)⟩
theorem acc_congr {r1 r2 : List (List (List Int))} {ini acc h l : List Int} (hl : r1.length = r2.length) (he : ∀ k t, t ∈ ent r1 h l k ↔ t ∈ ent r2 h l k) : accV r1 ini acc h l = accV r2 ini acc h l := by
  unfold accV
  rw [hl]
  refine lives_congr (fun k t => ?_) _ _ _
  unfold mvF
  rw [List.mem_map, List.mem_map]
  exact ⟨fun ⟨u, a, b⟩ => ⟨u, (he k u).mp a, b⟩, fun ⟨u, a, b⟩ => ⟨u, (he k u).mpr a, b⟩⟩
theorem cell_iff {n : Nat} {row r1 : List (List Int)} (h1 : r1.length = n) (h2 : ∀ (j : Nat) (e : List Int), r1[j]? = some e → ∀ t, t ∈ e ↔ ∃ i es, i % n = j ∧ row[i]? = some es ∧ t ∈ es) (j : Nat) (t : Int) : t ∈ r1.getD j [] ↔ j < n ∧ ∃ i es, i % n = j ∧ row[i]? = some es ∧ t ∈ es := by
  rcases Nat.lt_or_ge j n with c | c
  · have e := List.getElem?_eq_getElem (show j < r1.length by omega)
    rw [List.getD_eq_getElem?_getD, e, Option.getD_some, h2 j _ e]
    exact ⟨fun h => ⟨c, h⟩, fun h => h.2⟩
  · rw [List.getD_eq_getElem?_getD, List.getElem?_eq_none (by omega)]
    exact ⟨(fun h => by cases h), fun h => by omega⟩
theorem hid_mrg {n : Nat} {c c1 c2 : List (List (List Int))} (h1 : Hid n c c1) (h2 : Mrg n c c2) {ini acc h l : List Int} : accV c1 ini acc h l = accV c2 ini acc h l := by
  refine acc_congr (by rw [h1.1, h2.1]) fun k t => ?_
  unfold ent
  generalize k / (h.length + l.length) = i
  generalize ((h ++ l).getD (k % (h.length + l.length)) 0).toNat = j
  rcases Nat.lt_or_ge i c.length with y | y
  · have e1 := List.getElem?_eq_getElem (show i < c1.length by rw [h1.1]; exact y)
    have e2 := List.getElem?_eq_getElem (show i < c2.length by rw [h2.1]; exact y)
    obtain ⟨row, hr, hr1⟩ := h1.2 i _ e1
    obtain ⟨row', hr', hr2⟩ := h2.2 i _ e2
    rw [hr] at hr'
    cases hr'
    rw [List.getD_eq_getElem?_getD (l := c1), e1, List.getD_eq_getElem?_getD (l := c2), e2, Option.getD_some, Option.getD_some, cell_iff hr1.1 (fun j e he => (hr1.2 j e he).2), cell_iff hr2.1 (fun j e he => (hr2.2 j e he).2)]
  · rw [List.getD_eq_getElem?_getD (l := c1), List.getElem?_eq_none (by rw [h1.1]; exact y), List.getD_eq_getElem?_getD (l := c2), List.getElem?_eq_none (by rw [h2.1]; exact y)]
theorem flat_rep_get {row : List (List Int)} (hp : 0 < row.length) : ∀ (k z : Nat), z < row.length * k → ((List.replicate k row).flatten).getD z [] = row.getD (z % row.length) []
  | 0, z, h => by omega
  | k + 1, z, h => by
    rw [List.replicate_succ, List.flatten_cons]
    rcases Nat.lt_or_ge z row.length with c | c
    · rw [List.getD_eq_getElem?_getD, List.getElem?_append_left c, Nat.mod_eq_of_lt c, ← List.getD_eq_getElem?_getD]
    · rw [List.getD_eq_getElem?_getD, List.getElem?_append_right c, ← List.getD_eq_getElem?_getD, flat_rep_get hp k (z - row.length) (by rw [Nat.mul_add, Nat.mul_one] at h; omega), Nat.mod_eq_sub_mod c]
theorem wdn_acc {L n : Int} {kk : Nat} {c : List (List (List Int))} {ini acc h l : List Int} (hL : 1 ≤ L) (hn : n = L * (kk : Int)) (hr : ∀ row ∈ c, (row.length : Int) = L) (hw : ∀ z, z ∈ h ++ l → 0 ≤ z ∧ z < n) (hne : l ≠ []) :
    accV (wdn kk c) ini acc h l = accV c ini acc (h.map (· % L)) (l.map (· % L)) := by
  have hl0 : 0 < l.length := List.length_pos_iff.mpr hne
  have e0 : (wdn kk c).length = c.length := List.length_map _
  have em : mvF (wdn kk c) h l = mvF c (h.map (· % L)) (l.map (· % L)) := by
    funext k
    unfold mvF
    have ea : ∀ j, aft (h.map (· % L)) (l.map (· % L)) j = aft h l j := fun j => by
      unfold aft
      rw [List.length_map, List.length_map]
    rw [ea, List.length_map, List.length_map]
    congr 1
    unfold ent
    rw [List.length_map, List.length_map, ← List.map_append]
    generalize hi : k / (h.length + l.length) = i
    have hj : k % (h.length + l.length) < (h ++ l).length := by rw [List.length_append]; exact Nat.mod_lt _ (by omega)
    generalize k % (h.length + l.length) = j at hj
    have e1 := List.getElem?_eq_getElem hj
    obtain ⟨z0, z1⟩ := hw _ (List.mem_of_getElem? e1)
    rw [List.getD_eq_getElem?_getD (l := h ++ l), List.getD_eq_getElem?_getD (l := (h ++ l).map (· % L)), List.getElem?_map, e1]
    show ((wdn kk c).getD i []).getD ((h ++ l)[j]).toNat [] = (c.getD i []).getD ((h ++ l)[j] % L).toNat []
    generalize (h ++ l)[j] = z at z0 z1
    rcases Nat.lt_or_ge i c.length with y | y
    · have e2 := List.getElem?_eq_getElem y
      have hrl := hr _ (List.mem_of_getElem? e2)
      have e3 : (wdn kk c)[i]? = some (List.replicate kk c[i]).flatten := by
        unfold wdn
        rw [List.getElem?_map, e2]
        rfl
      rw [List.getD_eq_getElem?_getD (l := wdn kk c), e3, List.getD_eq_getElem?_getD (l := c), e2, Option.getD_some, Option.getD_some]
      generalize c[i] = row at hrl
      have hz : z.toNat < row.length * kk := by
        have : (z.toNat : Int) < ((row.length * kk : Nat) : Int) := by
          rw [Int.natCast_mul, hrl, ← hn]
          omega
        omega
      rw [flat_rep_get (by omega) kk _ hz]
      congr 1
      have : z % L = ((z.toNat % row.length : Nat) : Int) := by
        show z % L = (z.toNat : Int) % (row.length : Int)
        rw [hrl, Int.toNat_of_nonneg z0]
      rw [this, Int.toNat_natCast]
    · rw [List.getD_eq_getElem?_getD (l := wdn kk c), List.getElem?_eq_none (by rw [e0]; exact y), List.getD_eq_getElem?_getD (l := c), List.getElem?_eq_none y]
      rfl
  unfold accV
  rw [em, e0, List.length_map, List.length_map]
  have eg : goF acc h l = goF acc (h.map (· % L)) (l.map (· % L)) := by
    funext k
    unfold goF
    rw [List.length_map, List.length_map]
  rw [eg]
theorem sq3_aut {K : PySem.W.Frag} {H : Hp} {rt : Addr} {as : List Addr} {bss : List (List Addr)} {c : List (List (List Int))} (h4 : H rt = some (.tup (as.map V.ref))) (h5 : CubB .tup H as bss c) : Sq3 K H rt c := by
  refine ⟨_, .inr (.of h4), by rw [List.length_map, (cub_len h5).1], fun i row hi => ?_⟩
  have hil := (List.getElem?_eq_some_iff.mp hi).1
  have hal := (cub_len h5).1
  obtain ⟨a, ha⟩ : ∃ a, as[i]? = some a := ⟨_, List.getElem?_eq_getElem (by omega)⟩
  obtain ⟨bs, row2, h1, h2, h3, h4⟩ := cub_get h5 ha
  rw [hi] at h2
  cases h2
  refine ⟨.ref a, by rw [List.getElem?_map, ha]; rfl, a, _, rfl, .inr (.of h3), by rw [List.length_map, h4.len], fun j ts hj => ?_⟩
  have hjl := (List.getElem?_eq_some_iff.mp hj).1
  have hbl := h4.len
  obtain ⟨b, hb⟩ : ∃ b, bs[j]? = some b := ⟨_, List.getElem?_eq_getElem (by omega)⟩
  obtain ⟨e, h6, h7⟩ := h4.get hb
  rw [hj] at h6
  cases h6
  exact ⟨b, by rw [List.getElem?_map, hb]; rfl, .inr (.of h7)⟩
theorem sq3_lc {K : PySem.W.Frag} {H : Hp} {rt : Addr} {as : List Addr} {bss : List (List Addr)} {c : List (List (List Int))} (h : LC H rt as bss c) : Sq3 K H rt c := by
  obtain ⟨h4, h5⟩ := h
  refine ⟨_, .inl (.of h4), by rw [List.length_map, (cub_len h5).1], fun i row hi => ?_⟩
  have hil := (List.getElem?_eq_some_iff.mp hi).1
  have hal := (cub_len h5).1
  obtain ⟨a, ha⟩ : ∃ a, as[i]? = some a := ⟨_, List.getElem?_eq_getElem (by omega)⟩
  obtain ⟨bs, row2, h1, h2, h3, h4⟩ := cub_get h5 ha
  rw [hi] at h2
  cases h2
  refine ⟨.ref a, by rw [List.getElem?_map, ha]; rfl, a, _, rfl, .inl (.of h3), by rw [List.length_map, h4.len], fun j ts hj => ?_⟩
  have hjl := (List.getElem?_eq_some_iff.mp hj).1
  have hbl := h4.len
  obtain ⟨b, hb⟩ : ∃ b, bs[j]? = some b := ⟨_, List.getElem?_eq_getElem (by omega)⟩
  obtain ⟨e, h6, h7⟩ := h4.get hb
  rw [hj] at h6
  cases h6
  exact ⟨b, by rw [List.getElem?_map, hb]; rfl, .inl (.of h7)⟩
theorem ll_kp2 {d r : Addr} {H H' : Hp} {as : List Addr} {bss : List (List Addr)} {c : List (List (List Int))} (k : Kp d H H') (n : d ≠ r) (m : ∀ b, (b ∈ as ∨ ∃ bs ∈ bss, b ∈ bs) → b ≠ d) (h : LC H r as bss c) : LC H' r as bss c := ⟨k _ _ n.symm h.1, cub_keep (fun b o hb e => k _ _ (m b hb) e) h.2⟩
def KL (S : List Addr) (H H' : Hp) : Prop := ∀ b o, b ∉ S → H b = some o → H' b = some o
theorem KL.trans {S : List Addr} {H H1 H2 : Hp} (a : KL S H H1) (b : KL S H1 H2) : KL S H H2 := fun c o n h => b c o n (a c o n h)
theorem kl_upd {S : List Addr} {H : Hp} {x : Addr} {o : HO} (h : x ∈ S) : KL S H (upd H x o) := fun b _ n e => by rw [upd_ne (fun z => n (by rw [z]; exact h))]; exact e
theorem kl_same {S : List Addr} {H H' : Hp} (s : Same H H') : KL S H H' := fun b o _ e => s b o e
theorem rows_kl {S : List Addr} {H H' : Hp} (k : KL S H H') (hs : ∀ b ∈ S, ∃ ys, H b = some (.lst ys)) : ∀ {as : List Addr} {rs : List (List Int)}, RowsA .tup H as rs → RowsA .tup H' as rs
  | [], [], _ => True.intro
  | a :: as, r :: rs, h => ⟨k _ _ (fun z => by obtain ⟨ys, y⟩ := hs a z; have := h.1; rw [y] at this; cases this) h.1, rows_kl k hs h.2⟩
  | [], _ :: _, h => h.elim
  | _ :: _, [], h => h.elim
theorem cub_kl {S : List Addr} {H H' : Hp} (k : KL S H H') (hs : ∀ b ∈ S, ∃ ys, H b = some (.lst ys)) : ∀ {as : List Addr} {bss : List (List Addr)} {c : List (List (List Int))}, CubB .tup H as bss c → CubB .tup H' as bss c
  | [], [], [], _ => True.intro
  | a :: as, bs :: bss, r :: rs, h => ⟨⟨k _ _ (fun z => by obtain ⟨ys, y⟩ := hs a z; have := h.1.1; rw [y] at this; cases this) h.1.1, rows_kl k hs h.1.2⟩, cub_kl k hs h.2⟩
  | [], [], _ :: _, h => h.elim
  | [], _ :: _, _, h => h.elim
  | _ :: _, [], _, h => h.elim
  | _ :: _, _ :: _, [], h => h.elim
theorem aut_kl {C : Addr} {S : List Addr} {H H' : Hp} {x : Addr} {L : Int} {ini acc : List Int} {c : List (List (List Int))} (k : KL S H H') (hs : ∀ b ∈ S, ∃ ys, H b = some (.lst ys)) (h : AutAt C H x L ini acc c) : AutAt C H' x L ini acc c := by
  obtain ⟨dx, it, at_, rt, as, bss, e1, e2, e3, e4, e5⟩ := h
  have f2 : H it = some (.tup (ini.map V.int)) := e2
  have f3 : H at_ = some (.tup (acc.map V.int)) := e3
  refine ⟨dx, it, at_, rt, as, bss, k _ _ (fun z => ?_) e1, k _ _ (fun z => ?_) e2, k _ _ (fun z => ?_) e3, k _ _ (fun z => ?_) e4, cub_kl k hs e5⟩
  · obtain ⟨ys, y⟩ := hs _ z
    rw [y] at e1
    cases e1
  · obtain ⟨ys, y⟩ := hs _ z
    rw [y] at f2
    cases f2
  · obtain ⟨ys, y⟩ := hs _ z
    rw [y] at f3
    cases f3
  · obtain ⟨ys, y⟩ := hs _ z
    rw [y] at e4
    cases e4
theorem aut_kp {C d : Addr} {H H' : Hp} {x : Addr} {L : Int} {ini acc : List Int} {c : List (List (List Int))} (k : Kp d H H') (hd : Drw H d) (h : AutAt C H x L ini acc c) : AutAt C H' x L ini acc c :=
  aut_kl (S := [d]) (fun b o hb e => k b o (fun z => hb (by rw [z]; exact List.mem_singleton_self _)) e) (fun b hb => by obtain ⟨ds, e⟩ := hd; rw [List.mem_singleton.mp hb]; exact ⟨_, e⟩) h
theorem ite_f {c : Bool} {A B : Prop} (h : c = false) (q : B) : if c = true then A else B := by
  rw [if_neg (by rw [h]; exact Bool.false_ne_true)]
  exact q
theorem ite_t {c : Bool} {A B : Prop} (h : c = true) (q : A) : if c = true then A else B := by
  rw [if_pos h]
  exact q
theorem ok_law {f : Addr} {fd : FuncData} (F : L2.Fun K "law" "law" s_law f fd) (T : Txt K mg) : FnOk P w K mg base CX0 8 f fd ["script"] (spLaw K) := by
  obtain ⟨cM, cI, C, fI, fdI, eI, PC, hM, gC, F0, hB, eM⟩ := gloA T
  have MK : MakX P w K mg base 2 "Automaton" C (spInitS C cI) := ⟨fI, fdI, _, hM, ok_initS T eI PC F0, gC, hB⟩
  have C_law_draws : C8.Cal P w K mg base 1 "_law_draws" (spDraws K) [] := cal_draws T
  have C_law_take : C8.Cal P w K mg base 1 "_law_take" spTake [] := cal_take T
  have C_law_automaton : C8.Cal P w K mg base 3 "_law_automaton" spAut [] := cal_aut T
  have C_law_copy : C8.Cal P w K mg base 1 "_law_copy" spCopy [] := cal_copy T
  have C_law_hide_outcome : C8.Cal P w K mg base 5 "_law_hide_outcome" (spHOut C) [] := cal_hout T eI PC hM gC F0 hB eM
  have C_law_widen_outcome : C8.Cal P w K mg base 5 "_law_widen_outcome" (spWOut2 C) [] := cal_wout2 T eI PC hM gC F0 hB eM
  have C_law_lasso : C8.Cal P w K mg base 2 "_law_lasso" spLasso [] := cal_lasso T
  have C_law_is_automaton : C8.Cal P w K mg base 4 "_law_is_automaton" (spIsAut C) [] := cal_isaut T PC
  have C_law_accepts : C8.Cal P w K mg base 2 "_law_accepts" (spAcc K) [] := cal_acc T
  have C_law_merged : C8.Cal P w K mg base 1 "_law_merged" (spMerged K) [] := cal_merged T
  refine F.ok sc_law (fun vs H Q E h => ?_) (fun cdv A outer s H vs Q E hr h => ?_)
  · obtain ⟨a, ns, rfl, _⟩ := h
    rfl
  · obtain ⟨sa, ns, rfl, hS, hlen, q⟩ := h
    refine ⟨_, (pss_cons
      (ps_set (i := 1) sc_law.nd rfl (Or.inl rfl) (C8.pe_c C_law_draws hr (by decide) (by rfl) (pa_cons (pv 0) (pa_cons pe_int pa_nil))))
      (pss_cons
      (ps_set (i := 2) sc_law.nd rfl (Or.inr rfl) (pe_op op_add pe_int (C8.pe_c C_law_take hr (by decide) (by rfl) (pa_cons (pv 1) (pa_cons pe_int pa_nil)))))
      (pss_cons
      (ps_asg (C8.pe_c C_law_automaton hr (by decide) (by rfl) (pa_cons (pv 1) (pa_cons (pv 2) (pa_cons pe_int pa_nil)))) (pg_tup (by rfl) (pgs_cons (pg_name (i := 3) sc_law.nd rfl (.inl rfl)) (pgs_cons (pg_name (i := 4) sc_law.nd rfl (.inl rfl)) (pgs_cons (pg_name (i := 5) sc_law.nd rfl (.inl rfl)) pgs_nil)))))
      (pss_cons
      (ps_set (i := 6) sc_law.nd rfl (Or.inl rfl) (pe_makeN MK hr (by decide) (by rfl) (pa_cons (pv 2) (pa_cons (pe_callTy (call_list_ofK (K := K) rfl) (by rfl) T.z_list (by decide +kernel) (pa_cons (pv 3) pa_nil)) (pa_cons (pe_callTy (call_list_ofK (K := K) rfl) (by rfl) T.z_list (by decide +kernel) (pa_cons (pv 4) pa_nil)) (pa_cons (C8.pe_c C_law_copy hr (by decide) (by rfl) (pa_cons (pv 5) pa_nil)) pa_nil))))))
      (pss_cons
      (ps_set (i := 7) sc_law.nd rfl (Or.inl rfl) (pe_ix (ix_listK (K := K) rfl) (pe_lst (pa_cons (pe_un un_neg pe_int) (pa_cons pe_int (pa_cons pe_int (pa_cons pe_int (pa_cons pe_int (pa_cons pe_int (pa_cons pe_int (pa_cons pe_int (pa_cons pe_int (pa_cons pe_int (pa_cons pe_int (pa_cons (pv 2) (pa_cons (pe_op op_mul pe_int (pv 2)) pa_nil)))))))))))))) (C8.pe_c C_law_take hr (by decide) (by rfl) (pa_cons (pv 1) (pa_cons pe_int pa_nil))) (fun _ _ => rfl)))
      (pss_cons
      (ps_set (i := 8) sc_law.nd rfl (Or.inl rfl) (C8.pe_c C_law_hide_outcome hr (by decide) (by rfl) (pa_cons (pv 6) (pa_cons (pv 7) pa_nil))))
      (pss_cons
      (ps_set (i := 9) sc_law.nd rfl (Or.inl rfl) (C8.pe_c C_law_widen_outcome hr (by decide) (by rfl) (pa_cons (pv 6) (pa_cons (pv 7) pa_nil))))
      (C8.pss_cut
      (ps_if (pt_cmpR op_ne (pe_cmpR op_isN (pv 8) pe_non (nomark _)) (pe_or (pe_cmpR op_lt (pv 7) pe_int (nomark _)) (pe_one (pe_cmpR op_ne (pe_op op_mod (pv 2) (pe_callB (call_max2 rfl) (by rfl) T.z_max (by decide +kernel) (pa_cons pe_int (pa_cons (pv 7) pa_nil)))) pe_int (nomark _)))) (nomark _)) (pss_one
      (ps_ret pe_bl)) pss_nil)
      (C8.pss_cut
      (ps_if (pt_cmpR op_ne (pe_cmpR op_isN (pv 9) pe_non (nomark _)) (pe_or (pe_cmpR op_lt (pv 7) pe_int (nomark _)) (pe_one (pe_cmpR op_ne (pe_op op_mod (pv 7) (pv 2)) pe_int (nomark _)))) (nomark _)) (pss_one
      (ps_ret pe_bl)) pss_nil)
      (pss_cons
      (ps_set (i := 10) sc_law.nd rfl (Or.inl rfl) (C8.pe_c C_law_lasso hr (by decide) (by rfl) (pa_cons (pv 1) (pa_cons (pe_callB (call_max2 rfl) (by rfl) T.z_max (by decide +kernel) (pa_cons pe_int (pa_cons (pv 7) pa_nil))) (pa_cons pe_int pa_nil)))))
      (C8.pss_cut
      (ps_if (pt_cmpR op_notN (pv 8) pe_non (nomark _)) (pss_cons
      (ps_if (PW.pt (pw_or (pt_not (pt_val (C8.pe_c C_law_is_automaton hr (by decide) (by rfl) (pa_cons (pv 8) (pa_cons (pv 7) pa_nil))))) (pw_or1 (pt_cmpR op_gt (pe_callB (call_lenK (K := K) rfl) (by rfl) T.z_len PySem.boot_len (pa_cons (pe_fld (pv 8) rfl) pa_nil)) (pe_callB (call_lenK (K := K) rfl) (by rfl) T.z_len PySem.boot_len (pa_cons (pv 5) pa_nil)) (nomark _))))) (pss_one
      (ps_ret pe_bl)) pss_nil)
      (pss_cons
      (ps_set (i := 11) sc_law.nd rfl (Or.inl rfl) (C8.pe_c C_law_accepts hr (by decide) (by rfl) (pa_cons (C8.pe_c C_law_merged hr (by decide) (by rfl) (pa_cons (pv 5) (pa_cons (pv 7) pa_nil))) (pa_cons (pv 3) (pa_cons (pv 4) (pa_cons (pv 10) pa_nil))))))
      (pss_one
      (ps_if (pt_cmpR op_ne (C8.pe_c C_law_accepts hr (by decide) (by rfl) (pa_cons (pe_fld (pv 8) rfl) (pa_cons (pe_fld (pv 8) rfl) (pa_cons (pe_fld (pv 8) rfl) (pa_cons (pv 10) pa_nil))))) (pv 11) (nomark _)) (pss_one
      (ps_ret pe_bl)) pss_nil)))) pss_nil)
      (pss_cons
      (ps_if (pt_cmpR op_notN (pv 9) pe_non (nomark _)) (pss_cons
      (ps_if (PW.pt (pw_or (pt_not (pt_val (C8.pe_c C_law_is_automaton hr (by decide) (by rfl) (pa_cons (pv 9) (pa_cons (pv 7) pa_nil))))) (pw_or1 (pt_cmpR op_gt (pe_callB (call_lenK (K := K) rfl) (by rfl) T.z_len PySem.boot_len (pa_cons (pe_fld (pv 9) rfl) pa_nil)) (pe_callB (call_lenK (K := K) rfl) (by rfl) T.z_len PySem.boot_len (pa_cons (pv 5) pa_nil)) (nomark _))))) (pss_one
      (ps_ret pe_bl)) pss_nil)
      (pss_cons
      (ps_set (i := 12) sc_law.nd rfl (Or.inl rfl) (pe_tup (pa_cons (pe_callTy (call_tuple_ofK (K := K) rfl) (by rfl) T.z_tuple (by decide +kernel) (pa_cons (pe_lc (own := [("letter", 13)]) (g := gName 13) (tt := tYes) rfl sc_law.nd (pi_tup (pe_ix (ix_tupK (K := K) rfl) (pv 10) pe_int (fun _ _ => rfl))) (blkOk_by (N := N_law) (sc := defScope s_law) (by decide +kernel)) (fun _ _ _ _ _ => (pg_name (i := 13) sc_law.nd rfl (Or.inl rfl))) (fun _ _ _ _ _ => pts_nil) (fun _ _ _ _ _ => (pe_op op_mod (pv 13) (pv 2)))) pa_nil)) (pa_cons (pe_callTy (call_tuple_ofK (K := K) rfl) (by rfl) T.z_tuple (by decide +kernel) (pa_cons (pe_lc (own := [("letter", 13)]) (g := gName 13) (tt := tYes) rfl sc_law.nd (pi_tup (pe_ix (ix_tupK (K := K) rfl) (pv 10) pe_int (fun _ _ => rfl))) (blkOk_by (N := N_law) (sc := defScope s_law) (by decide +kernel)) (fun _ _ _ _ _ => (pg_name (i := 13) sc_law.nd rfl (Or.inl rfl))) (fun _ _ _ _ _ => pts_nil) (fun _ _ _ _ _ => (pe_op op_mod (pv 13) (pv 2)))) pa_nil)) pa_nil))))
      (pss_cons
      (ps_set (i := 11) sc_law.nd rfl (Or.inl rfl) (C8.pe_c C_law_accepts hr (by decide) (by rfl) (pa_cons (pv 5) (pa_cons (pv 3) (pa_cons (pv 4) (pa_cons (pv 12) pa_nil))))))
      (pss_one
      (ps_ret (pe_cmpR op_eq (C8.pe_c C_law_accepts hr (by decide) (by rfl) (pa_cons (pe_fld (pv 9) rfl) (pa_cons (pe_fld (pv 9) rfl) (pa_cons (pe_fld (pv 9) rfl) (pa_cons (pv 10) pa_nil))))) (pv 11) (nomark _))))))) pss_nil)
      (pss_one
      (ps_ret pe_bl)))))))))))))), ?_⟩
    refine ⟨_, rfl, sa, ns, 250, rfl, hS, by decide, fun H1 d s1 hd0 d1 => ?_⟩
    refine ⟨_, rfl, d, 6, rfl, d1, by decide, fun l ds l0 l1 => ?_⟩
    have d2 : Drw (upd H1 d (.lst (ds.map V.int))) d := Drw.own
    generalize upd H1 d (.lst (ds.map V.int)) = H2 at *
    clear d1 s1 hd0
    refine ⟨_, _, rfl, rfl, ?_⟩
    show gName 2 (V.int (1 + l)) _ _ _
    have hL1 : 1 ≤ 1 + l := by omega
    have hL6 : 1 + l ≤ 6 := by omega
    generalize 1 + l = L at *
    refine ⟨_, rfl, _, rfl, d, L, 4, rfl, d2, by omega, by omega, by omega, by omega, fun H3 t ii aa r as bss ini acc c k3 d3 et hi ha hLC G hv bm bi ba bc => ?_⟩
    refine ⟨t, _, rfl, .of et, rfl, _, _, rfl, _, _, rfl, _, _, rfl, rfl, ?_⟩
    clear k3 et d2
    obtain ⟨g1, g2, g3, g4, g5, g6, g7⟩ := id G
    have hc100 : ∀ q ∈ c, q.length ≤ 100 := fun q hq => by have := (hv.2.2.2.2 q hq).1; omega
    refine ⟨_, rfl, _, rfl, ii, _, rfl, .inl (.of hi), fun i2 hi2 => ?_⟩
    have s4 := same_new (o := .lst (ini.map V.int)) hi2
    have ei2 := upd_same (H := H3) (a := i2) (o := .lst (ini.map V.int))
    generalize upd H3 i2 (.lst (ini.map V.int)) = H4 at s4 ei2 ⊢
    refine ⟨_, rfl, aa, _, rfl, .inl (.of (s4 _ _ ha)), fun a2 ha2 => ?_⟩
    have s5 := same_new (o := .lst (acc.map V.int)) ha2
    have ea2 := upd_same (H := H4) (a := a2) (o := .lst (acc.map V.int))
    generalize upd H4 a2 (.lst (acc.map V.int)) = H5 at s5 ea2 ⊢
    have s35 := s4.trans s5
    refine ⟨_, rfl, r, as, bss, c, rfl, lc_same s35 hLC, by omega, fun q hq => by have := hc100 q hq; omega, fun H6 r' as' bss' hcp => ?_⟩
    obtain ⟨s6, hL6', n6, d6, m6⟩ := hcp
    have s36 := s35.trans s6
    refine fun x dx hx hdx hne => ?_
    have s7 := same_fresh (C := C) hx hdx
    refine ⟨x, i2, a2, r', dx, L, ini, acc, as', c, rfl, upd_same, .inl (s7 _ _ (s6 _ _ (s5 _ _ ei2))), .inl (s7 _ _ (s6 _ _ ea2)), ⟨s7 _ _ hL6'.1, (cub_len hL6'.2).1, fun i a ha => ?_⟩, by omega, fun q hq => by have := hc100 q hq; omega, fun z => absurd hv z, fun _ H7 k7 A7 => ⟨rfl, ?_⟩⟩
    · obtain ⟨bs, row, h1, h2, h3, h4⟩ := cub_get hL6'.2 ha
      exact ⟨bs, row, h2, s7 _ _ h3, h4.len, fun j b hb => by obtain ⟨e, h5, h6⟩ := h4.get hb; exact ⟨e, h5, .inl (s7 _ _ h6)⟩⟩
    have s37 : Same H3 H7 := s36.trans (same_made hx hdx k7)
    clear s7 k7 hx hdx hne
    have d7 : Drw H7 d := d3.same s37
    have hi7 := s37 _ _ hi
    have ha7 := s37 _ _ ha
    have hL7 := lc_same s37 hLC
    clear s4 s5 s6 s35 s36 s37 ei2 ea2 hi2 ha2 hL6' n6 d6 m6 hi ha hLC d3
    refine ⟨_, rfl, _, rfl, _, rfl, _, _, rfl, rfl, .inl (by constructor <;> decide), by show 13 ≤ sizeLine; decide, fun t1 ht1 => ?_⟩
    have s8 := same_new (o := .lst [.int (-1), .int 0, .int 1, .int 1, .int 2, .int 2, .int 3, .int 4, .int 5, .int 6, .int 8, .int L, .int (2 * L)]) ht1
    have d8 := d7.same s8
    have nd1 : t1 ≠ d := fun z => by obtain ⟨o, y⟩ := d7; rw [← z, ht1] at y; cases y
    refine ⟨_, rfl, d, 13, rfl, d8, by decide, fun z ds9 z0 z1 => ?_⟩
    have e9 : (upd (upd H7 t1 (.lst [.int (-1), .int 0, .int 1, .int 1, .int 2, .int 2, .int 3, .int 4, .int 5, .int 6, .int 8, .int L, .int (2 * L)])) d (.lst (ds9.map V.int))) t1 = some (.lst [.int (-1), .int 0, .int 1, .int 1, .int 2, .int 2, .int 3, .int 4, .int 5, .int 6, .int 8, .int L, .int (2 * L)]) := by
      rw [upd_ne nd1, upd_same]
    have k9 : Kp d H7 (upd (upd H7 t1 (.lst [.int (-1), .int 0, .int 1, .int 1, .int 2, .int 2, .int 3, .int 4, .int 5, .int 6, .int 8, .int L, .int (2 * L)])) d (.lst (ds9.map V.int))) := (Same.kp s8).trans Kp.own
    have d9 : Drw (upd (upd H7 t1 (.lst [.int (-1), .int 0, .int 1, .int 1, .int 2, .int 2, .int 3, .int 4, .int 5, .int 6, .int 8, .int L, .int (2 * L)])) d (.lst (ds9.map V.int))) d := Drw.own
    generalize upd (upd H7 t1 (.lst [.int (-1), .int 0, .int 1, .int 1, .int 2, .int 2, .int 3, .int 4, .int 5, .int 6, .int 8, .int L, .int (2 * L)])) d (.lst (ds9.map V.int)) = H9 at e9 k9 d9 ⊢
    have hz : ∃ N : Int, atI [V.int (-1), .int 0, .int 1, .int 1, .int 2, .int 2, .int 3, .int 4, .int 5, .int 6, .int 8, .int L, .int (2 * L)] z = some (.int N) ∧ N ≤ 12 := by
      have : z = 0 ∨ z = 1 ∨ z = 2 ∨ z = 3 ∨ z = 4 ∨ z = 5 ∨ z = 6 ∨ z = 7 ∨ z = 8 ∨ z = 9 ∨ z = 10 ∨ z = 11 ∨ z = 12 := by omega
      rcases this with y | y | y | y | y | y | y | y | y | y | y | y | y <;> subst y <;> exact ⟨_, rfl, by omega⟩
    obtain ⟨N, hN, hN12⟩ := hz
    refine ⟨t1, _, _, .int N, rfl, rfl, .of e9, hN, ?_⟩
    have A9 := aut_kp k9 d7 A7
    have hi9 := hp_kp k9 g1 hi7
    have ha9 := hp_kp k9 g2 ha7
    have hL9 := ll_kp2 k9 g3 g4 hL7
    clear s8 d8 e9 k9 hN A7 hi7 ha7 hL7 d7 ht1 nd1 z0 z1
    refine ⟨_, rfl, _, rfl, x, N, L, ini, acc, c, rfl, A9, hv, by omega, by omega, by omega, fun H10 hh s10 HH => ?_⟩
    refine ⟨_, rfl, _, rfl, x, N, L, ini, acc, c, rfl, aut_same s10 A9, hv, by omega, by omega, by omega, fun H11 ww s11 WW => ?_⟩
    have s911 := s10.trans s11
    have hi11 := s911 _ _ hi9
    have ha11 := s911 _ _ ha9
    have hL11 := lc_same s911 hL9
    have d11 := d9.same s911
    have HH11 : HOutV C H11 hh N L ini acc c := by
      rcases HH with h | ⟨y, c', h1, h2, h3, h4, h5⟩
      · exact .inl h
      · exact .inr ⟨y, c', h1, h2, h3, h4, aut_same s11 h5⟩
    clear s10 s11 s911 hi9 ha9 hL9 d9 HH A9
    refine ⟨fun σ H => σ = [some (.ref sa), some (.ref d), some (.int L), some (.ref ii), some (.ref aa), some (.ref r), some (.ref x), some (.int N), some hh, some ww, none, none, none, none] ∧ H = H11, ?_, ?_⟩
    · refine ⟨_, rfl, rfl, _, rfl, _, _, rfl, rfl, _, rfl, ite2 (fun k => ?_) (fun k => ?_)⟩
      · have k := of_decide_eq_true k
        rcases HH11 with ⟨rfl, h⟩ | ⟨y, c', rfl, h1, h2, h3, h4⟩
        · refine ⟨rfl, _, rfl, ?_⟩
          exact ite_f (by simp) ⟨rfl, rfl⟩
        · omega
      · have k : ¬ N < 1 := fun z => k (decide_eq_true z)
        have em : (if N > 1 then N else 1) = N := by split <;> omega
        refine ⟨_, rfl, _, rfl, _, _, rfl, _, _, rfl, rfl, by rw [em]; omega, rfl, rfl, _, rfl, ?_⟩
        rw [em]
        rcases HH11 with ⟨rfl, h⟩ | ⟨y, c', rfl, h1, h2, h3, h4⟩
        · have h : L % N ≠ 0 := by omega
          exact ite_f (by simp [h]) ⟨rfl, rfl⟩
        · exact ite_f (by simp [h2]) ⟨rfl, rfl⟩
    rintro σ H ⟨rfl, rfl⟩
    refine ⟨fun σ H' => σ = [some (.ref sa), some (.ref d), some (.int L), some (.ref ii), some (.ref aa), some (.ref r), some (.ref x), some (.int N), some hh, some ww, none, none, none, none] ∧ H' = H, ?_, ?_⟩
    · refine ⟨_, rfl, rfl, _, rfl, _, _, rfl, rfl, _, rfl, ite2 (fun k => ?_) (fun k => ?_)⟩
      · have k := of_decide_eq_true k
        rcases WW with ⟨rfl, h⟩ | ⟨y, rfl, h1, h2, h4⟩
        · refine ⟨rfl, _, rfl, ?_⟩
          exact ite_f (by simp) ⟨rfl, rfl⟩
        · omega
      · have k : ¬ N < 1 := fun z => k (decide_eq_true z)
        refine ⟨_, rfl, _, rfl, _, _, rfl, rfl, by omega, rfl, rfl, _, rfl, ?_⟩
        rcases WW with ⟨rfl, h⟩ | ⟨y, rfl, h1, h2, h4⟩
        · have h : N % L ≠ 0 := by omega
          exact ite_f (by simp [h]) ⟨rfl, rfl⟩
        · exact ite_f (by simp [h2]) ⟨rfl, rfl⟩
    rintro σ H' ⟨rfl, rfl⟩
    have hmx : 1 ≤ (if N > 1 then N else 1) ∧ (1 ≤ N → (if N > 1 then N else 1) = N) ∧ (if N > 1 then N else 1) ≤ 12 := by split <;> omega
    refine ⟨_, rfl, _, rfl, _, _, rfl, d, (if N > 1 then N else 1), 3, rfl, d11, by omega, by decide, by decide, fun H12 p h l k12 d12 hlas hh3 hne hl3 hw1 hw2 => ?_⟩
    have HH12 : HOutV C H12 hh N L ini acc c := by
      rcases HH11 with h | ⟨y, c', h1, h2, h3, h4, h5⟩
      · exact .inl h
      · exact .inr ⟨y, c', h1, h2, h3, h4, aut_kp k12 d11 h5⟩
    have WW12 : WOutV C H12 ww N L ini acc c := by
      rcases WW with h | ⟨y, h1, h2, h3, h5⟩
      · exact .inl h
      · exact .inr ⟨y, h1, h2, h3, aut_kp k12 d11 h5⟩
    have hi12 := hp_kp k12 g1 hi11
    have ha12 := hp_kp k12 g2 ha11
    have hL12 := ll_kp2 k12 g3 g4 hL11
    clear HH11 WW hi11 ha11 hL11 k12 d12 d11
    have hwl : ∀ z, z ∈ h ++ l → 0 ≤ z ∧ z < (if N > 1 then N else 1) := fun z hz => (List.mem_append.mp hz).elim (hw1 z) (hw2 z)
    have hini := hv.2.2.1
    have hacc := hv.2.2.2.1
    have hr0 : r ≠ d := g3.symm
    refine ⟨fun σ H' => ∃ v11 : Option V, σ = [some (.ref sa), some (.ref d), some (.int L), some (.ref ii), some (.ref aa), some (.ref r), some (.ref x), some (.int N), some hh, some ww, some (.ref p), v11, none, none] ∧ Same H12 H', ?_, ?_⟩
    · refine ⟨_, rfl, rfl, _, rfl, ?_⟩
      rcases HH12 with ⟨rfl, _⟩ | ⟨y, c', rfl, n1, n2, hid, hA⟩
      · exact ite_f (by simp) ⟨_, rfl, Same.refl _⟩
      refine ite_t (by simp) ?_
      rw [hmx.2.1 n1] at hwl
      obtain ⟨nn, rfl⟩ : ∃ nn : Nat, N = (nn : Int) := ⟨N.toNat, by omega⟩
      rw [Int.toNat_natCast] at hid
      have hVl := hid_vld hv (by omega) hid
      have hcl : c'.length = c.length := hid.1
      have hbd : ∀ q ∈ c', ∀ e ∈ q, e.length ≤ 1000 := fun q hq e he => by have := asc_len ((hVl.2.2.2.2 q hq).2 e he); omega
      refine ⟨_, rfl, _, rfl, y, nn, ini, acc, c', rfl, hA, hVl, by omega, by omega, hbd, true, rfl, ?_⟩
      obtain ⟨dy, it, at_, rt, as', bss', e1, e2, e3, e4, e5⟩ := id hA
      have hl2 : (as'.map V.ref).length = c.length := by rw [List.length_map, (cub_len e5).1, hcl]
      have hl3 : (as.map V.ref).length = c.length := by rw [List.length_map, (cub_len hL12.2).1]
      refine ⟨_, rfl, y, C, dy, _, _, rfl, e1, PC.cl, PC.nR, bf_r _ _ _ _, rt, _, rfl, .inr (.of e4), _, rfl, r, _, rfl, .inl (.of hL12.1), _, _, rfl, rfl, _, rfl, ite_f (by rw [hl2, hl3]; simp) ?_⟩
      refine ⟨_, rfl, _, rfl, r, as, bss, c, nn, rfl, hL12, by omega, by omega, by omega, fun q hq => ⟨by have := (hv.2.2.2.2 q hq).1; omega, bc q hq⟩, fun H13 pm c2 s13 hM hS => ?_⟩
      rw [Int.toNat_natCast] at hM
      have hc2 : c2.length = c.length := hM.1
      refine ⟨_, rfl, _, rfl, _, rfl, pm, ii, aa, p, c2, ini, acc, h, l, nn, rfl, hS, .inl (.of (s13 _ _ hi12)), .inl (.of (s13 _ _ ha12)), hlas.same s13, hne, by omega, by omega, by omega, by omega, fun s hs => by rw [hc2]; exact hini.2 s hs, hwl, fun row hrow => ?_, fun H14 s14 => ?_⟩
      · obtain ⟨i, hi⟩ := List.mem_iff_getElem?.mp hrow
        obtain ⟨row0, h1, h2, h3⟩ := hM.2 i row hi
        refine ⟨by omega, fun ts hts => ?_⟩
        obtain ⟨j, hj⟩ := List.mem_iff_getElem?.mp hts
        obtain ⟨h4, h5⟩ := h3 j ts hj
        refine ⟨by omega, fun t ht => ?_⟩
        obtain ⟨i2, es, _, h6, h7⟩ := (h5 t).mp ht
        rw [hc2]
        exact ((hv.2.2.2.2 row0 (List.mem_of_getElem? h1)).2 es (List.mem_of_getElem? h6)).2 t h7
      have s24 := s13.trans s14
      refine ⟨_, rfl, y, C, dy, _, _, rfl, s24 _ _ e1, PC.cl, PC.nR, bf_r _ _ _ _, _, rfl, y, C, dy, _, _, rfl, s24 _ _ e1, PC.cl, PC.nI, bf_i _ _ _ _, _, rfl, y, C, dy, _, _, rfl, s24 _ _ e1, PC.cl, PC.nA, bf_a _ _ _ _, _, rfl, rt, it, at_, p, c', ini, acc, h, l, nn, rfl, sq3_aut (s24 _ _ e4) (cub_same s24 e5), .inr (.of (s24 _ _ e2)), .inr (.of (s24 _ _ e3)), hlas.same s24, hne, by omega, by omega, by omega, by omega, fun s hs => by rw [hcl]; exact hini.2 s hs, hwl, fun row hrow => ?_, fun H15 s15 => ?_⟩
      · obtain ⟨h1, h2⟩ := hVl.2.2.2.2 row hrow
        exact ⟨h1, fun ts hts => ⟨by have := hbd row hrow ts hts; omega, (h2 ts hts).2⟩⟩
      refine ⟨_, rfl, rfl, _, rfl, ite_f ?_ ⟨_, rfl, s24.trans s15⟩⟩
      rw [hid_mrg hid hM]
      simp
    rintro σ H' ⟨v11, rfl, s13⟩
    have WW13 : WOutV C H' ww N L ini acc c := by
      rcases WW12 with h | ⟨y, h1, h2, h3, h5⟩
      · exact .inl h
      · exact .inr ⟨y, h1, h2, h3, aut_same s13 h5⟩
    have hi13 := s13 _ _ hi12
    have ha13 := s13 _ _ ha12
    have hL13 := lc_same s13 hL12
    have las13 := hlas.same s13
    clear HH12 WW12 hi12 ha12 hL12 s13 hlas
    refine ⟨_, rfl, rfl, _, rfl, ?_⟩
    rcases WW13 with ⟨rfl, _⟩ | ⟨y, rfl, n1, n2, hA⟩
    · exact ite_f (by simp) (q _)
    refine ite_t (by simp) ?_
    rw [hmx.2.1 n1] at hwl
    obtain ⟨kk, hkk⟩ : ∃ kk : Nat, N / L = (kk : Int) := ⟨(N / L).toNat, by rw [Int.toNat_of_nonneg (Int.ediv_nonneg (by omega) (by omega))]⟩
    have hnk : N = L * (kk : Int) := by
      have := Int.mul_ediv_add_emod N L
      rw [n2, hkk] at this
      omega
    rw [hkk, Int.toNat_natCast] at hA
    have hVl := wdn_vld hv n1 hnk
    have hcl : (wdn kk c).length = c.length := List.length_map _
    have hbd : ∀ q ∈ wdn kk c, ∀ e ∈ q, e.length ≤ 1000 := fun q hq e he => by have := asc_len ((hVl.2.2.2.2 q hq).2 e he); omega
    refine ⟨_, rfl, _, rfl, y, N, ini, acc, wdn kk c, rfl, hA, hVl, by omega, by omega, hbd, true, rfl, ?_⟩
    obtain ⟨dy, it, at_, rt, as', bss', e1, e2, e3, e4, e5⟩ := id hA
    have hl2 : (as'.map V.ref).length = c.length := by rw [List.length_map, (cub_len e5).1, hcl]
    have hl3' : (as.map V.ref).length = c.length := by rw [List.length_map, (cub_len hL13.2).1]
    refine ⟨_, rfl, y, C, dy, _, _, rfl, e1, PC.cl, PC.nR, bf_r _ _ _ _, rt, _, rfl, .inr (.of e4), _, rfl, r, _, rfl, .inl (.of hL13.1), _, _, rfl, rfl, _, rfl, ite_f (by rw [hl2, hl3']; simp) ?_⟩
    obtain ⟨pa, pb, p1, p2, p3⟩ := id las13
    have lcq : ∀ (xs : List Int) (a D : Addr) (Hx : Hp), Same H' Hx → Hx D = none → H' a = some (.tup (xs.map V.int)) → xs.length ≤ 1000 → True := fun _ _ _ _ _ _ _ _ => trivial
    refine ⟨_, rfl, p, _, _, _, rfl, rfl, .of p1, rfl, pa, rfl, ⟨_, .of p2⟩, fun D hD => lc_tup (K := K) (a := pa) (xs := h.map V.int) (fun i Hx => Same H' Hx ∧ Hx D = some (.lst (((h.take i).map (· % L)).map V.int))) ⟨same_new hD, upd_same⟩ (fun i Hx _ ⟨s7, _⟩ => .of (s7 _ _ p2)) ?_ ?_⟩
    · rintro i v Hx hi ⟨s7, e7⟩
      obtain ⟨t, ht, rfl⟩ := ints_get hi
      refine ⟨rfl, _, rfl, _, rfl, _, _, rfl, rfl, by omega, _, e7, by rw [List.length_map, List.length_map, List.length_take]; exact Nat.lt_of_le_of_lt (show _ ≤ 1000 by omega) (by decide), fun b u hb => ?_, ?_⟩
      · rw [upd_ne (ne_of_none hb hD)]
        exact s7 _ _ hb
      · rw [upd_same, List.take_add_one, ht, Option.toList_some, List.map_append, List.map_append]
        rfl
    rintro H14 ⟨s14, e14⟩
    rw [List.length_map, List.take_length] at e14
    refine ⟨D, _, rfl, .inl ⟨.of e14, fun ta hta => ?_⟩⟩
    have s15 := same_new (o := .tup ((h.map (· % L)).map V.int)) hta
    have eta := upd_same (H := H14) (a := ta) (o := .tup ((h.map (· % L)).map V.int))
    generalize upd H14 ta (.tup ((h.map (· % L)).map V.int)) = H15 at s15 eta ⊢
    have s05 := s14.trans s15
    refine ⟨_, rfl, p, _, _, _, rfl, rfl, .of (s05 _ _ p1), rfl, pb, rfl, ⟨_, .of (s05 _ _ p3)⟩, fun D2 hD2 => lc_tup (K := K) (a := pb) (xs := l.map V.int) (fun i Hx => Same H15 Hx ∧ Hx D2 = some (.lst (((l.take i).map (· % L)).map V.int))) ⟨same_new hD2, upd_same⟩ (fun i Hx _ ⟨s7, _⟩ => .of (s7 _ _ (s05 _ _ p3))) ?_ ?_⟩
    · rintro i v Hx hi ⟨s7, e7⟩
      obtain ⟨t, ht, rfl⟩ := ints_get hi
      refine ⟨rfl, _, rfl, _, rfl, _, _, rfl, rfl, by omega, _, e7, by rw [List.length_map, List.length_map, List.length_take]; exact Nat.lt_of_le_of_lt (show _ ≤ 1000 by omega) (by decide), fun b u hb => ?_, ?_⟩
      · rw [upd_ne (ne_of_none hb hD2)]
        exact s7 _ _ hb
      · rw [upd_same, List.take_add_one, ht, Option.toList_some, List.map_append, List.map_append]
        rfl
    rintro H16 ⟨s16, e16⟩
    rw [List.length_map, List.take_length] at e16
    refine ⟨D2, _, rfl, .inl ⟨.of e16, fun tb htb => ?_⟩⟩
    refine ⟨by show 2 ≤ sizeLine; decide, fun tp htp => ?_⟩
    have s17 := (s05.trans s16).trans ((same_new (o := .tup ((l.map (· % L)).map V.int)) htb).trans (same_new (o := .tup [.ref ta, .ref tb]) htp))
    have lo17 : Las (upd (upd H16 tb (.tup ((l.map (· % L)).map V.int))) tp (.tup [.ref ta, .ref tb])) tp (h.map (· % L)) (l.map (· % L)) :=
      ⟨ta, tb, upd_same, ((same_new htb).trans (same_new htp)) _ _ (s16 _ _ eta), (same_new htp) _ _ upd_same⟩
    generalize upd (upd H16 tb (.tup ((l.map (· % L)).map V.int))) tp (.tup [.ref ta, .ref tb]) = H17 at s17 lo17 ⊢
    refine ⟨_, rfl, _, rfl, _, rfl, _, rfl, r, ii, aa, tp, c, ini, acc, h.map (· % L), l.map (· % L), L, rfl, sq3_lc (lc_same s17 hL13), .inl (.of (s17 _ _ hi13)), .inl (.of (s17 _ _ ha13)), lo17, fun z => hne (List.map_eq_nil_iff.mp z), by rw [List.length_map]; omega, by rw [List.length_map]; omega, by omega, by omega, hini.2, fun z hz => ?_, fun row hrow => ?_, fun H18 s18 => ?_⟩
    · rw [← List.map_append] at hz
      obtain ⟨u, hu, rfl⟩ := List.mem_map.mp hz
      exact ⟨Int.emod_nonneg _ (by omega), Int.emod_lt_of_pos _ (by omega)⟩
    · obtain ⟨h1, h2⟩ := hv.2.2.2.2 row hrow
      exact ⟨h1, fun ts hts => ⟨by have := bc row hrow ts hts; omega, (h2 ts hts).2⟩⟩
    have s08 := s17.trans s18
    refine ⟨_, rfl, y, C, dy, _, _, rfl, s08 _ _ e1, PC.cl, PC.nR, bf_r _ _ _ _, _, rfl, y, C, dy, _, _, rfl, s08 _ _ e1, PC.cl, PC.nI, bf_i _ _ _ _, _, rfl, y, C, dy, _, _, rfl, s08 _ _ e1, PC.cl, PC.nA, bf_a _ _ _ _, _, rfl, rt, it, at_, p, wdn kk c, ini, acc, h, l, N, rfl, sq3_aut (s08 _ _ e4) (cub_same s08 e5), .inr (.of (s08 _ _ e2)), .inr (.of (s08 _ _ e3)), las13.same s08, hne, by omega, by omega, by omega, by omega, fun s hs => by rw [hcl]; exact hini.2 s hs, hwl, fun row hrow => ?_, fun H19 s19 => ?_⟩
    · obtain ⟨h1, h2⟩ := hVl.2.2.2.2 row hrow
      exact ⟨h1, fun ts hts => ⟨by have := hbd row hrow ts hts; omega, (h2 ts hts).2⟩⟩
    refine ⟨_, rfl, rfl, ?_⟩
    rw [wdn_acc hL1 hnk (fun row hrow => (hv.2.2.2.2 row hrow).1) hwl hne, decide_eq_true rfl]
    exact q _
end

theorem all_mk {l : PySem.W.OpenLaw} {w : World} {K : PySem.W.Frag} {h : Heap} {mg : Str → Option Value} {fa : Addr} {f0 f1 f2 f3 f4 f5 f6 f7 f8 f9 f10 f11 f12 f13 f14 f15 f16 f17 f18 cM cI C fI : Addr} (X : K.In h) (G : h.Ns mainGlobals mg) (hfa : mg "law" = some (.ref fa))
    {od0 an0 od1 an1 od2 an2 od3 an3 od4 an4 od5 an5 od6 an6 od7 an7 od8 an8 od9 an9 od10 an10 od11 an11 od12 an12 od13 an13 od14 an14 od15 an15 od16 an16 od17 an17 od18 an18 : Option Addr} {sl0 sl1 sl2 sl3 sl4 sl5 sl6 sl7 sl8 sl9 sl10 sl11 sl12 sl13 sl14 sl15 sl16 sl17 sl18 : Array (Option Value)} {oc0 kV0 dc0 pm0 cd0 ct0 oc1 kV1 dc1 pm1 cd1 ct1 oc2 kV2 dc2 pm2 cd2 ct2 oc3 kV3 dc3 pm3 cd3 ct3 oc4 kV4 dc4 pm4 cd4 ct4 oc5 kV5 dc5 pm5 cd5 ct5 oc6 kV6 dc6 pm6 cd6 ct6 oc7 kV7 dc7 pm7 cd7 ct7 oc8 kV8 dc8 pm8 cd8 ct8 oc9 kV9 dc9 pm9 cd9 ct9 oc10 kV10 dc10 pm10 cd10 ct10 oc11 kV11 dc11 pm11 cd11 ct11 oc12 kV12 dc12 pm12 cd12 ct12 oc13 kV13 dc13 pm13 cd13 ct13 oc14 kV14 dc14 pm14 cd14 ct14 oc15 kV15 dc15 pm15 cd15 ct15 oc16 kV16 dc16 pm16 cd16 ct16 oc17 kV17 dc17 pm17 cd17 ct17 oc18 kV18 dc18 pm18 cd18 ct18 : Value} {odI anI : Option Addr} {slI : Array (Option Value)} {ocI kVI dcI pmI cdI ctI : Value}
    (a0 : PySem.W.nsIn K mainGlobals "check_states" = some (some (.ref f0))) (l0 : K.lookup f0 = some ⟨oc0, od0, .func (PySem.W.fnOf "check_states" "check_states" (defArgs s_check_states) (defBody s_check_states) (defScope s_check_states) .none kV0 dc0 pm0 an0 cd0 ct0), sl0⟩) (c0 : PySem.W.codeIn K cd0 "check_states" = true) (k0 : PySem.W.keepIn K (.ref f0) = true)
    (a1 : PySem.W.nsIn K mainGlobals "hide" = some (some (.ref f1))) (l1 : K.lookup f1 = some ⟨oc1, od1, .func (PySem.W.fnOf "hide" "hide" (defArgs s_hide) (defBody s_hide) (defScope s_hide) .none kV1 dc1 pm1 an1 cd1 ct1), sl1⟩) (c1 : PySem.W.codeIn K cd1 "hide" = true) (k1 : PySem.W.keepIn K (.ref f1) = true)
    (a2 : PySem.W.nsIn K mainGlobals "widen" = some (some (.ref f2))) (l2 : K.lookup f2 = some ⟨oc2, od2, .func (PySem.W.fnOf "widen" "widen" (defArgs s_widen) (defBody s_widen) (defScope s_widen) .none kV2 dc2 pm2 an2 cd2 ct2), sl2⟩) (c2 : PySem.W.codeIn K cd2 "widen" = true) (k2 : PySem.W.keepIn K (.ref f2) = true)
    (a3 : PySem.W.nsIn K mainGlobals "_law_draws" = some (some (.ref f3))) (l3 : K.lookup f3 = some ⟨oc3, od3, .func (PySem.W.fnOf "_law_draws" "_law_draws" (defArgs s_law_draws) (defBody s_law_draws) (defScope s_law_draws) .none kV3 dc3 pm3 an3 cd3 ct3), sl3⟩) (c3 : PySem.W.codeIn K cd3 "_law_draws" = true) (k3 : PySem.W.keepIn K (.ref f3) = true)
    (a4 : PySem.W.nsIn K mainGlobals "_law_take" = some (some (.ref f4))) (l4 : K.lookup f4 = some ⟨oc4, od4, .func (PySem.W.fnOf "_law_take" "_law_take" (defArgs s_law_take) (defBody s_law_take) (defScope s_law_take) .none kV4 dc4 pm4 an4 cd4 ct4), sl4⟩) (c4 : PySem.W.codeIn K cd4 "_law_take" = true) (k4 : PySem.W.keepIn K (.ref f4) = true)
    (a5 : PySem.W.nsIn K mainGlobals "_law_is_integer" = some (some (.ref f5))) (l5 : K.lookup f5 = some ⟨oc5, od5, .func (PySem.W.fnOf "_law_is_integer" "_law_is_integer" (defArgs s_law_is_integer) (defBody s_law_is_integer) (defScope s_law_is_integer) .none kV5 dc5 pm5 an5 cd5 ct5), sl5⟩) (c5 : PySem.W.codeIn K cd5 "_law_is_integer" = true) (k5 : PySem.W.keepIn K (.ref f5) = true)
    (a6 : PySem.W.nsIn K mainGlobals "_law_integers" = some (some (.ref f6))) (l6 : K.lookup f6 = some ⟨oc6, od6, .func (PySem.W.fnOf "_law_integers" "_law_integers" (defArgs s_law_integers) (defBody s_law_integers) (defScope s_law_integers) .none kV6 dc6 pm6 an6 cd6 ct6), sl6⟩) (c6 : PySem.W.codeIn K cd6 "_law_integers" = true) (k6 : PySem.W.keepIn K (.ref f6) = true)
    (a7 : PySem.W.nsIn K mainGlobals "_law_lasso" = some (some (.ref f7))) (l7 : K.lookup f7 = some ⟨oc7, od7, .func (PySem.W.fnOf "_law_lasso" "_law_lasso" (defArgs s_law_lasso) (defBody s_law_lasso) (defScope s_law_lasso) .none kV7 dc7 pm7 an7 cd7 ct7), sl7⟩) (c7 : PySem.W.codeIn K cd7 "_law_lasso" = true) (k7 : PySem.W.keepIn K (.ref f7) = true)
    (a8 : PySem.W.nsIn K mainGlobals "_law_lives" = some (some (.ref f8))) (l8 : K.lookup f8 = some ⟨oc8, od8, .func (PySem.W.fnOf "_law_lives" "_law_lives" (defArgs s_law_lives) (defBody s_law_lives) (defScope s_law_lives) .none kV8 dc8 pm8 an8 cd8 ct8), sl8⟩) (c8 : PySem.W.codeIn K cd8 "_law_lives" = true) (k8 : PySem.W.keepIn K (.ref f8) = true)
    (a9 : PySem.W.nsIn K mainGlobals "_law_ascending" = some (some (.ref f9))) (l9 : K.lookup f9 = some ⟨oc9, od9, .func (PySem.W.fnOf "_law_ascending" "_law_ascending" (defArgs s_law_ascending) (defBody s_law_ascending) (defScope s_law_ascending) .none kV9 dc9 pm9 an9 cd9 ct9), sl9⟩) (c9 : PySem.W.codeIn K cd9 "_law_ascending" = true) (k9 : PySem.W.keepIn K (.ref f9) = true)
    (a10 : PySem.W.nsIn K mainGlobals "_law_automaton" = some (some (.ref f10))) (l10 : K.lookup f10 = some ⟨oc10, od10, .func (PySem.W.fnOf "_law_automaton" "_law_automaton" (defArgs s_law_automaton) (defBody s_law_automaton) (defScope s_law_automaton) .none kV10 dc10 pm10 an10 cd10 ct10), sl10⟩) (c10 : PySem.W.codeIn K cd10 "_law_automaton" = true) (k10 : PySem.W.keepIn K (.ref f10) = true)
    (a11 : PySem.W.nsIn K mainGlobals "_law_copy" = some (some (.ref f11))) (l11 : K.lookup f11 = some ⟨oc11, od11, .func (PySem.W.fnOf "_law_copy" "_law_copy" (defArgs s_law_copy) (defBody s_law_copy) (defScope s_law_copy) .none kV11 dc11 pm11 an11 cd11 ct11), sl11⟩) (c11 : PySem.W.codeIn K cd11 "_law_copy" = true) (k11 : PySem.W.keepIn K (.ref f11) = true)
    (a12 : PySem.W.nsIn K mainGlobals "_law_accepts" = some (some (.ref f12))) (l12 : K.lookup f12 = some ⟨oc12, od12, .func (PySem.W.fnOf "_law_accepts" "_law_accepts" (defArgs s_law_accepts) (defBody s_law_accepts) (defScope s_law_accepts) .none kV12 dc12 pm12 an12 cd12 ct12), sl12⟩) (c12 : PySem.W.codeIn K cd12 "_law_accepts" = true) (k12 : PySem.W.keepIn K (.ref f12) = true)
    (a13 : PySem.W.nsIn K mainGlobals "_law_states" = some (some (.ref f13))) (l13 : K.lookup f13 = some ⟨oc13, od13, .func (PySem.W.fnOf "_law_states" "_law_states" (defArgs s_law_states) (defBody s_law_states) (defScope s_law_states) .none kV13 dc13 pm13 an13 cd13 ct13), sl13⟩) (c13 : PySem.W.codeIn K cd13 "_law_states" = true) (k13 : PySem.W.keepIn K (.ref f13) = true)
    (a14 : PySem.W.nsIn K mainGlobals "_law_is_automaton" = some (some (.ref f14))) (l14 : K.lookup f14 = some ⟨oc14, od14, .func (PySem.W.fnOf "_law_is_automaton" "_law_is_automaton" (defArgs s_law_is_automaton) (defBody s_law_is_automaton) (defScope s_law_is_automaton) .none kV14 dc14 pm14 an14 cd14 ct14), sl14⟩) (c14 : PySem.W.codeIn K cd14 "_law_is_automaton" = true) (k14 : PySem.W.keepIn K (.ref f14) = true)
    (a15 : PySem.W.nsIn K mainGlobals "_law_hide_outcome" = some (some (.ref f15))) (l15 : K.lookup f15 = some ⟨oc15, od15, .func (PySem.W.fnOf "_law_hide_outcome" "_law_hide_outcome" (defArgs s_law_hide_outcome) (defBody s_law_hide_outcome) (defScope s_law_hide_outcome) .none kV15 dc15 pm15 an15 cd15 ct15), sl15⟩) (c15 : PySem.W.codeIn K cd15 "_law_hide_outcome" = true) (k15 : PySem.W.keepIn K (.ref f15) = true)
    (a16 : PySem.W.nsIn K mainGlobals "_law_widen_outcome" = some (some (.ref f16))) (l16 : K.lookup f16 = some ⟨oc16, od16, .func (PySem.W.fnOf "_law_widen_outcome" "_law_widen_outcome" (defArgs s_law_widen_outcome) (defBody s_law_widen_outcome) (defScope s_law_widen_outcome) .none kV16 dc16 pm16 an16 cd16 ct16), sl16⟩) (c16 : PySem.W.codeIn K cd16 "_law_widen_outcome" = true) (k16 : PySem.W.keepIn K (.ref f16) = true)
    (a17 : PySem.W.nsIn K mainGlobals "_law_merged" = some (some (.ref f17))) (l17 : K.lookup f17 = some ⟨oc17, od17, .func (PySem.W.fnOf "_law_merged" "_law_merged" (defArgs s_law_merged) (defBody s_law_merged) (defScope s_law_merged) .none kV17 dc17 pm17 an17 cd17 ct17), sl17⟩) (c17 : PySem.W.codeIn K cd17 "_law_merged" = true) (k17 : PySem.W.keepIn K (.ref f17) = true)
    (a18 : PySem.W.nsIn K mainGlobals "law" = some (some (.ref f18))) (l18 : K.lookup f18 = some ⟨oc18, od18, .func (PySem.W.fnOf "law" "law" (defArgs s_law) (defBody s_law) (defScope s_law) .none kV18 dc18 pm18 an18 cd18 ct18), sl18⟩) (c18 : PySem.W.codeIn K cd18 "law" = true) (k18 : PySem.W.keepIn K (.ref f18) = true)
    (z0 : PySem.W.nsIn K mainGlobals "bool" = some none) (z1 : PySem.W.nsIn K mainGlobals "int" = some none) (z2 : PySem.W.nsIn K mainGlobals "isinstance" = some none) (z3 : PySem.W.nsIn K mainGlobals "len" = some none) (z4 : PySem.W.nsIn K mainGlobals "list" = some none) (z5 : PySem.W.nsIn K mainGlobals "max" = some none) (z6 : PySem.W.nsIn K mainGlobals "range" = some none) (z7 : PySem.W.nsIn K mainGlobals "set" = some none) (z8 : PySem.W.nsIn K mainGlobals "sorted" = some none) (z9 : PySem.W.nsIn K mainGlobals "tuple" = some none) (xa : PySem.W.nsIn K mainGlobals "InvalidAutomaton" = some (some (.ref cI))) (xb : PySem.W.excIn K cI [.type "ValueError", .type "Exception", .type "BaseException", .type "object"] "ValueError.__new__" = true) (xc : PySem.W.keepIn K (.ref cI) = true) (xd : PySem.W.typeIn K (.ref cI) = some (.type "type")) (xe : PySem.W.subIn K (.ref cI) (.ref cI) = some true) (xf : PySem.W.findIn K (.ref cI) "__getattribute__" = some (some (.builtin "BaseException.__getattribute__"))) (xg : PySem.W.findIn K (.ref cI) "__getattr__" = some none) (xh : PySem.W.subIn K (.ref cI) (.type "BaseException") = some true) (xi : PySem.W.hasDictIn K cI = true) (xj : PySem.W.findIn K (.ref cI) "__class__" = some (some (.builtin "object.__class__"))) (xk : PySem.W.specialIn K (.builtin "object.__class__") "__get__" = some (some (.builtin "getset_descriptor.__get__"))) (xl : PySem.W.takesIn K (.builtin "object.__class__") = some true) (xm : PySem.W.mroIn K cI (.type "object") = some true) (ya : PySem.W.nsIn K mainGlobals "Automaton" = some (some (.ref C))) (yb : PySem.W.plainGet K C Str.empty = true) (yc : PySem.W.hasDictIn K C = true) (yd : PySem.W.plainOver K C = true) (ye : PySem.W.findIn K (.ref C) "__setattr__" = some (some (.builtin "object.__setattr__"))) (yf : PySem.W.findIn K (.ref C) "letters" = some none) (yg : PySem.W.findIn K (.ref C) "initial" = some none) (yh : PySem.W.findIn K (.ref C) "accepting" = some none) (yi : PySem.W.findIn K (.ref C) "rows" = some none) (yj : PySem.W.makesIn K C = true) (yk : PySem.W.findIn K (.ref C) "__init__" = some (some (.ref fI))) (yl : PySem.W.isFn K (.ref fI) = true) (ym : PySem.W.keepIn K (.ref C) = true) (yn : K.lookup fI = some ⟨ocI, odI, .func (PySem.W.fnOf "__init__" "Automaton.__init__" (defArgs s_Automaton_init) (defBody s_Automaton_init) (defScope s_Automaton_init) .none kVI dcI pmI anI cdI ctI), slI⟩) (yo : PySem.W.codeIn K cdI "Automaton.__init__" = true) (yp : PySem.W.keepIn K (.ref fI) = true) (yq : PySem.W.findIn K (.ref C) "__class__" = some (some (.builtin "object.__class__"))) (yr : PySem.W.specialIn K (.builtin "object.__class__") "__get__" = some (some (.builtin "getset_descriptor.__get__"))) (ys : PySem.W.takesIn K (.builtin "object.__class__") = some true) (yt : PySem.W.mroIn K C (.type "object") = some true) (xu : PySem.W.kitOne K (.ref C) (.ref C) = some true) (va : PySem.W.nsIn K mainGlobals "Mismatch" = some (some (.ref cM))) (vb : PySem.W.excIn K cM [.type "ValueError", .type "Exception", .type "BaseException", .type "object"] "ValueError.__new__" = true) (vc : PySem.W.keepIn K (.ref cM) = true) (vd : PySem.W.typeIn K (.ref cM) = some (.type "type")) (ve : PySem.W.subIn K (.ref cM) (.ref cM) = some true) (vf : PySem.W.findIn K (.ref cM) "__getattribute__" = some (some (.builtin "BaseException.__getattribute__"))) (vg : PySem.W.findIn K (.ref cM) "__getattr__" = some none) (vh : PySem.W.subIn K (.ref cM) (.type "BaseException") = some true) (vi : PySem.W.hasDictIn K cM = true) (vj : PySem.W.findIn K (.ref cM) "__class__" = some (some (.builtin "object.__class__"))) (vk : PySem.W.specialIn K (.builtin "object.__class__") "__get__" = some (some (.builtin "getset_descriptor.__get__"))) (vl : PySem.W.takesIn K (.builtin "object.__class__") = some true) (vm : PySem.W.mroIn K cM (.type "object") = some true) :
    ∃ fd : FuncData, (∀ (s : Shared) (v : Value), BindsTo s fd ⟨[v], []⟩ [("script", v)]) ∧ ∀ base : Heap, K.In base → base.Ns mainGlobals mg → FnOk l.prog w K mg base CX0 8 fa fd ["script"] (spLaw K) := by
  have e := hfa.symm.trans (PySem.W.mg_of X G a18)
  cases e
  have T : Txt K mg := ⟨⟨f0, _, fun_mk (st := s_check_states) l0 c0 k0, PySem.W.mg_of X G a0, (fun_mk (st := s_check_states) l0 c0 k0).binds fun _ _ _ _ _ _ us hl => match us, hl with | [_, _], _ => rfl⟩, ⟨f1, _, fun_mk (st := s_hide) l1 c1 k1, PySem.W.mg_of X G a1, (fun_mk (st := s_hide) l1 c1 k1).binds fun _ _ _ _ _ _ us hl => match us, hl with | [_, _], _ => rfl⟩, ⟨f2, _, fun_mk (st := s_widen) l2 c2 k2, PySem.W.mg_of X G a2, (fun_mk (st := s_widen) l2 c2 k2).binds fun _ _ _ _ _ _ us hl => match us, hl with | [_, _], _ => rfl⟩, ⟨f3, _, fun_mk (st := s_law_draws) l3 c3 k3, PySem.W.mg_of X G a3, (fun_mk (st := s_law_draws) l3 c3 k3).binds fun _ _ _ _ _ _ us hl => match us, hl with | [_, _], _ => rfl⟩, ⟨f4, _, fun_mk (st := s_law_take) l4 c4 k4, PySem.W.mg_of X G a4, (fun_mk (st := s_law_take) l4 c4 k4).binds fun _ _ _ _ _ _ us hl => match us, hl with | [_, _], _ => rfl⟩, ⟨f5, _, fun_mk (st := s_law_is_integer) l5 c5 k5, PySem.W.mg_of X G a5, (fun_mk (st := s_law_is_integer) l5 c5 k5).binds fun _ _ _ _ _ _ us hl => match us, hl with | [_], _ => rfl⟩, ⟨f6, _, fun_mk (st := s_law_integers) l6 c6 k6, PySem.W.mg_of X G a6, (fun_mk (st := s_law_integers) l6 c6 k6).binds fun _ _ _ _ _ _ us hl => match us, hl with | [_, _, _], _ => rfl⟩, ⟨f7, _, fun_mk (st := s_law_lasso) l7 c7 k7, PySem.W.mg_of X G a7, (fun_mk (st := s_law_lasso) l7 c7 k7).binds fun _ _ _ _ _ _ us hl => match us, hl with | [_, _, _], _ => rfl⟩, ⟨f8, _, fun_mk (st := s_law_lives) l8 c8 k8, PySem.W.mg_of X G a8, (fun_mk (st := s_law_lives) l8 c8 k8).binds fun _ _ _ _ _ _ us hl => match us, hl with | [_, _, _], _ => rfl⟩, ⟨f9, _, fun_mk (st := s_law_ascending) l9 c9 k9, PySem.W.mg_of X G a9, (fun_mk (st := s_law_ascending) l9 c9 k9).binds fun _ _ _ _ _ _ us hl => match us, hl with | [_, _, _], _ => rfl⟩, ⟨f10, _, fun_mk (st := s_law_automaton) l10 c10 k10, PySem.W.mg_of X G a10, (fun_mk (st := s_law_automaton) l10 c10 k10).binds fun _ _ _ _ _ _ us hl => match us, hl with | [_, _, _], _ => rfl⟩, ⟨f11, _, fun_mk (st := s_law_copy) l11 c11 k11, PySem.W.mg_of X G a11, (fun_mk (st := s_law_copy) l11 c11 k11).binds fun _ _ _ _ _ _ us hl => match us, hl with | [_], _ => rfl⟩, ⟨f12, _, fun_mk (st := s_law_accepts) l12 c12 k12, PySem.W.mg_of X G a12, (fun_mk (st := s_law_accepts) l12 c12 k12).binds fun _ _ _ _ _ _ us hl => match us, hl with | [_, _, _, _], _ => rfl⟩, ⟨f13, _, fun_mk (st := s_law_states) l13 c13 k13, PySem.W.mg_of X G a13, (fun_mk (st := s_law_states) l13 c13 k13).binds fun _ _ _ _ _ _ us hl => match us, hl with | [_, _], _ => rfl⟩, ⟨f14, _, fun_mk (st := s_law_is_automaton) l14 c14 k14, PySem.W.mg_of X G a14, (fun_mk (st := s_law_is_automaton) l14 c14 k14).binds fun _ _ _ _ _ _ us hl => match us, hl with | [_, _], _ => rfl⟩, ⟨f15, _, fun_mk (st := s_law_hide_outcome) l15 c15 k15, PySem.W.mg_of X G a15, (fun_mk (st := s_law_hide_outcome) l15 c15 k15).binds fun _ _ _ _ _ _ us hl => match us, hl with | [_, _], _ => rfl⟩, ⟨f16, _, fun_mk (st := s_law_widen_outcome) l16 c16 k16, PySem.W.mg_of X G a16, (fun_mk (st := s_law_widen_outcome) l16 c16 k16).binds fun _ _ _ _ _ _ us hl => match us, hl with | [_, _], _ => rfl⟩, ⟨f17, _, fun_mk (st := s_law_merged) l17 c17 k17, PySem.W.mg_of X G a17, (fun_mk (st := s_law_merged) l17 c17 k17).binds fun _ _ _ _ _ _ us hl => match us, hl with | [_, _], _ => rfl⟩, PySem.W.mg_none_of X G z0, PySem.W.mg_none_of X G z1, PySem.W.mg_none_of X G z2, PySem.W.mg_none_of X G z3, PySem.W.mg_none_of X G z4, PySem.W.mg_none_of X G z5, PySem.W.mg_none_of X G z6, PySem.W.mg_none_of X G z7, PySem.W.mg_none_of X G z8, PySem.W.mg_none_of X G z9, ⟨cM, cI, C, fI, _, ⟨PySem.W.mg_of X G xa, xb, xc, xd, xe, ⟨xf, xg, xh, xi, xj, xk, xl, xm⟩⟩, ⟨⟨yb, yc, yd, ye⟩, yf, yg, yh, yi, yq, yr, ys, yt, xu⟩, ⟨yj, yk, yl, ym⟩, PySem.W.mg_of X G ya, fun_mk (st := s_Automaton_init) yn yo yp, (fun_mk (st := s_Automaton_init) yn yo yp).binds fun _ _ _ _ _ _ us hl => match us, hl with | [_, _, _, _, _], _ => rfl, ⟨PySem.W.mg_of X G va, vb, vc, vd, ve, ⟨vf, vg, vh, vi, vj, vk, vl, vm⟩⟩⟩⟩
  exact ⟨_, fun s v => .of_eq rfl, fun base _ _ => ok_law (fun_mk (st := s_law) l18 c18 k18) T⟩
end My
open PySem PySem.W PyProof.Rows
set_option maxHeartbeats 0 in
theorem PySem.Challenge.cw_reactivesynth_k20_hide_and_widen_holds : PySem.Challenge.rw_reactivesynth_k20_hide_and_widen.Holds := by
  w_on; o_law; k_head; (case hw => w_witness2)
  k_fill
  refine L2.walk_of (l := PySem.Challenge.rw_reactivesynth_k20_hide_and_widen) (n := 63) (k := 8) (x := "script") (CX := fun _ => L2.CX0) (sp := fun w => My.spLaw _) rfl (by decide) rfl ⟨rfl, by decide, by decide⟩ (fun w h Y => PySem.W.kIn_of Y) ?F (fun _ _ a ns hl _ hS => ⟨a, ns, rfl, hS, hl, fun _ => rfl⟩) (fun _ _ _ _ _ h => h)
  case F =>
    intro w mg fa h KX G hmg
    refine' My.all_mk KX G hmg ?a0 ?l0 ?c0 ?k0 ?a1 ?l1 ?c1 ?k1 ?a2 ?l2 ?c2 ?k2 ?a3 ?l3 ?c3 ?k3 ?a4 ?l4 ?c4 ?k4 ?a5 ?l5 ?c5 ?k5 ?a6 ?l6 ?c6 ?k6 ?a7 ?l7 ?c7 ?k7 ?a8 ?l8 ?c8 ?k8 ?a9 ?l9 ?c9 ?k9 ?a10 ?l10 ?c10 ?k10 ?a11 ?l11 ?c11 ?k11 ?a12 ?l12 ?c12 ?k12 ?a13 ?l13 ?c13 ?k13 ?a14 ?l14 ?c14 ?k14 ?a15 ?l15 ?c15 ?k15 ?a16 ?l16 ?c16 ?k16 ?a17 ?l17 ?c17 ?k17 ?a18 ?l18 ?c18 ?k18 ?z0 ?z1 ?z2 ?z3 ?z4 ?z5 ?z6 ?z7 ?z8 ?z9 ?xa ?xb ?xc ?xd ?xe ?xf ?xg ?xh ?xi ?xj ?xk ?xl ?xm ?ya ?yb ?yc ?yd ?ye ?yf ?yg ?yh ?yi ?yj ?yk ?yl ?ym ?yn ?yo ?yp ?yq ?yr ?ys ?yt ?xu ?va ?vb ?vc ?vd ?ve ?vf ?vg ?vh ?vi ?vj ?vk ?vl ?vm
    (case a0 => k_is); (case l0 => k_is); (case c0 => k_is); (case k0 => k_is); (case a1 => k_is); (case l1 => k_is); (case c1 => k_is); (case k1 => k_is); (case a2 => k_is); (case l2 => k_is); (case c2 => k_is); (case k2 => k_is); (case a3 => k_is); (case l3 => k_is); (case c3 => k_is); (case k3 => k_is); (case a4 => k_is); (case l4 => k_is); (case c4 => k_is); (case k4 => k_is); (case a5 => k_is); (case l5 => k_is); (case c5 => k_is); (case k5 => k_is); (case a6 => k_is); (case l6 => k_is); (case c6 => k_is); (case k6 => k_is); (case a7 => k_is); (case l7 => k_is); (case c7 => k_is); (case k7 => k_is); (case a8 => k_is); (case l8 => k_is); (case c8 => k_is); (case k8 => k_is); (case a9 => k_is); (case l9 => k_is); (case c9 => k_is); (case k9 => k_is); (case a10 => k_is); (case l10 => k_is); (case c10 => k_is); (case k10 => k_is); (case a11 => k_is); (case l11 => k_is); (case c11 => k_is); (case k11 => k_is); (case a12 => k_is); (case l12 => k_is); (case c12 => k_is); (case k12 => k_is); (case a13 => k_is); (case l13 => k_is); (case c13 => k_is); (case k13 => k_is); (case a14 => k_is); (case l14 => k_is); (case c14 => k_is); (case k14 => k_is); (case a15 => k_is); (case l15 => k_is); (case c15 => k_is); (case k15 => k_is); (case a16 => k_is); (case l16 => k_is); (case c16 => k_is); (case k16 => k_is); (case a17 => k_is); (case l17 => k_is); (case c17 => k_is); (case k17 => k_is); (case a18 => k_is); (case l18 => k_is); (case c18 => k_is); (case k18 => k_is); (case z0 => k_is); (case z1 => k_is); (case z2 => k_is); (case z3 => k_is); (case z4 => k_is); (case z5 => k_is); (case z6 => k_is); (case z7 => k_is); (case z8 => k_is); (case z9 => k_is); (case xa => first | rfl | k_is); (case xb => first | k_exc | rfl | k_is); (case xc => first | rfl | k_is); (case xd => first | rfl | k_is); (case xe => first | rfl | k_is); (case xf => first | rfl | k_is); (case xg => first | rfl | k_is); (case xh => first | rfl | k_is); (case xi => first | rfl | k_is); (case xj => first | rfl | k_is); (case xk => first | rfl | k_is); (case xl => first | rfl | k_is); (case xm => first | rfl | k_is); (case ya => k_is); (case yb => k_is); (case yc => k_is); (case yd => k_is); (case ye => k_is); (case yf => k_is); (case yg => k_is); (case yh => k_is); (case yi => k_is); (case yj => k_is); (case yk => k_is); (case yl => k_is); (case ym => k_is); (case yn => k_is); (case yo => k_is); (case yp => k_is); (case yq => k_is); (case yr => k_is); (case ys => k_is); (case yt => k_is); (case xu => first | rfl | k_is); (case va => k_is); (case vb => first | k_exc | rfl | k_is); (case vc => k_is); (case vd => k_is); (case ve => k_is); (case vf => k_is); (case vg => k_is); (case vh => k_is); (case vi => k_is); (case vj => k_is); (case vk => k_is); (case vl => k_is); (case vm => k_is)
