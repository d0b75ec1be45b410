import PyProof.Rows.All
import Wide.All
import OpenK.AllK
import Wide.FinOn
import HandS.ForMost
import HandS.ForExc
import HandS.ExcIs
import HandS.ExcOwn
import HandS.WordsExc
import HandS.TryMany
import HandS.TryOnly
import HandS.Codes
import HandS.IsInst
import HandS.TupAny
import HandS.TupMul
import HandS.SortKw
import KE.KMinKey
import PyProof.WalksMore
import HandS.Dict
import HandS.Style
import HandS.Conv
import HandS.Walk
import HandS.Zip
import PyProof.AutoSeq1
import HandS.Text
import HandS.SetFor
import HandS.Strs
import HandS.Star
import HandS.MakeKwOnly
import HandS.Property
import HandS.Steps
import HandS.Defaults
import HandS.WideBits
import HandS.StrMore
import HandS.Replace
import HandS.Text
import HandS.Dict
import HandS.Deep
import PySem.Challenge.RW_reactivesynth_k42_separating_word
set_option Elab.async false
set_option linter.all false
set_option maxRecDepth 100000
set_option maxHeartbeats 4000000
namespace Wd
/-- m is the length of a proper border of the first k letters -/
def Bd (w : Nat → Int) (k m : Nat) : Prop := m < k ∧ ∀ i, i < m → w i = w (k - m + i)
/-- .. the greatest -/
def Lg (w : Nat → Int) (k m : Nat) : Prop := Bd w k m ∧ ∀ j, Bd w k j → j ≤ m
theorem Bd.zero {w : Nat → Int} {k : Nat} (h : 0 < k) : Bd w k 0 := ⟨h, fun i hi => absurd hi (Nat.not_lt_zero i)⟩
theorem Bd.down {w : Nat → Int} {k m : Nat} (h : Bd w (k + 1) (m + 1)) : Bd w k m ∧ w m = w k := by
  obtain ⟨h1, h2⟩ := h
  refine ⟨⟨by omega, fun i hi => ?_⟩, ?_⟩
  · have := h2 i (by omega)
    rw [this]
    congr 1
    omega
  · have := h2 m (by omega)
    rw [this]
    congr 1
    omega
theorem Bd.up {w : Nat → Int} {k m : Nat} (h : Bd w k m) (e : w m = w k) : Bd w (k + 1) (m + 1) := by
  obtain ⟨h1, h2⟩ := h
  refine ⟨by omega, fun i hi => ?_⟩
  rcases Nat.lt_or_ge i m with c | c
  · rw [h2 i c]
    congr 1
    omega
  · have : i = m := by omega
    subst this
    rw [e]
    congr 1
    omega
theorem Bd.inner {w : Nat → Int} {k b j : Nat} (h : Bd w k b) (g : Bd w k j) (l : j < b) : Bd w b j := by
  obtain ⟨h1, h2⟩ := h
  obtain ⟨g1, g2⟩ := g
  refine ⟨l, fun i hi => ?_⟩
  rw [g2 i hi, h2 (b - j + i) (by omega)]
  congr 1
  omega
theorem Bd.trans {w : Nat → Int} {k b j : Nat} (h : Bd w k b) (g : Bd w b j) : Bd w k j := by
  obtain ⟨h1, h2⟩ := h
  obtain ⟨g1, g2⟩ := g
  refine ⟨by omega, fun i hi => ?_⟩
  rw [g2 i hi, h2 (b - j + i) (by omega)]
  congr 1
  omega
/-- what the inner loop keeps: b is a border of the first k letters, and no border of the first k + 1 is longer than b + 1 -/
def In (w : Nat → Int) (k b : Nat) : Prop := Bd w k b ∧ ∀ j, Bd w (k + 1) (j + 1) → j ≤ b
theorem In.start {w : Nat → Int} {k b : Nat} (h : Lg w k b) : In w k b := ⟨h.1, fun j hj => h.2 j hj.down.1⟩
theorem In.step {w : Nat → Int} {k b c : Nat} (h : In w k b) (hb : 0 < b) (ne : w k ≠ w b) (g : Lg w b c) : In w k c ∧ c < b := by
  refine ⟨⟨h.1.trans g.1, fun j hj => ?_⟩, g.1.1⟩
  have h1 := h.2 j hj
  obtain ⟨h2, h3⟩ := hj.down
  have : j ≠ b := fun z => ne (by rw [← h3, z])
  exact g.2 j (h.1.inner h2 (by omega))
theorem In.found {w : Nat → Int} {k b : Nat} (h : In w k b) (e : w k = w b) : Lg w (k + 1) (b + 1) := by
  refine ⟨h.1.up e.symm, fun j hj => ?_⟩
  cases j with
  | zero => omega
  | succ j => exact Nat.succ_le_succ (h.2 j hj)
theorem In.none {w : Nat → Int} {k : Nat} (h : In w k 0) (ne : w k ≠ w 0) : Lg w (k + 1) 0 := by
  refine ⟨Bd.zero (by omega), fun j hj => ?_⟩
  cases j with
  | zero => omega
  | succ j =>
    have h1 := h.2 j hj
    have : j = 0 := by omega
    subst this
    exact absurd hj.down.2.symm ne
/-! periods -/
/-- the letters of the word without end that repeats the first n letters -/
def cyc (w : Nat → Int) (n i : Nat) : Int := w (i % n)
def Rp (w : Nat → Int) (n p : Nat) : Prop := ∀ i, cyc w n (i + p) = cyc w n i
theorem Rp.mul {w : Nat → Int} {n p : Nat} (h : Rp w n p) : ∀ k i, cyc w n (i + k * p) = cyc w n i
  | 0, i => by rw [Nat.zero_mul, Nat.add_zero]
  | k + 1, i => by
    rw [Nat.succ_mul, ← Nat.add_assoc, h, h.mul k i]
theorem Rp.mod {w : Nat → Int} {n p i : Nat} (h : Rp w n p) : cyc w n i = cyc w n (i % p) := by
  have := h.mul (i / p) (i % p)
  rw [Nat.mul_comm, Nat.mod_add_div] at this
  exact this
theorem cyc_lt {w : Nat → Int} {n i : Nat} (h : i < n) : cyc w n i = w i := by
  unfold cyc
  rw [Nat.mod_eq_of_lt h]
theorem rp_self (w : Nat → Int) (n : Nat) : Rp w n n := fun i => by
  unfold cyc
  rw [Nat.add_mod_right]
/-- a period of the finite word that divides its length is one of the word without end -/
theorem rp_of {w : Nat → Int} {n p : Nat} (hp : 0 < p) (hd : p ∣ n) (hn : 0 < n) (h : ∀ i, i + p < n → w i = w (i + p)) : Rp w n p := by
  have red : ∀ k i, i + k * p < n → w (i + k * p) = w i := by
    intro k
    induction k with
    | zero => intro i _; rw [Nat.zero_mul, Nat.add_zero]
    | succ k ih =>
      intro i hi
      rw [Nat.succ_mul] at hi ⊢
      rw [← Nat.add_assoc, ← h (i + k * p) (by omega)]
      exact ih i (by omega)
  have toMod : ∀ i, cyc w n i = w (i % p) := by
    intro i
    unfold cyc
    have h1 : i % n < n := Nat.mod_lt _ hn
    have e : i % n % p + (i % n / p) * p = i % n := by
      rw [Nat.mul_comm]
      exact Nat.mod_add_div _ _
    have h2 := red (i % n / p) (i % n % p) (by rw [e]; exact h1)
    rw [e] at h2
    rw [h2, Nat.mod_mod_of_dvd _ hd]
  intro i
  rw [toMod, toMod, Nat.add_mod_right]
/-- the least repetition: r divides n, the word repeats its first r letters, and no shorter one does -/
structure Least (w : Nat → Int) (n r : Nat) : Prop where
  pos : 0 < r
  dvd : r ∣ n
  rp : Rp w n r
  min : ∀ p, 0 < p → p ∣ n → Rp w n p → r ≤ p
theorem least_of {w : Nat → Int} {n b : Nat} (hn : 0 < n) (h : Lg w n b) : Least w n (if n % (n - b) = 0 then n - b else n) := by
  obtain ⟨⟨hb, h1⟩, h2⟩ := h
  have hs : 0 < n - b := by omega
  -- n - b is the least period of the finite word
  have per : ∀ i, i + (n - b) < n → w i = w (i + (n - b)) := fun i hi => by
    have := h1 i (by omega)
    rw [this]
    congr 1
    omega
  have low : ∀ p, 0 < p → p ≤ n → (∀ i, i + p < n → w i = w (i + p)) → n - b ≤ p := fun p hp hpn hq => by
    have := h2 (n - p) ⟨by omega, fun i hi => by
      have := hq i (by omega)
      rw [this]
      congr 1
      omega⟩
    omega
  have fin : ∀ p, Rp w n p → ∀ i, i + p < n → w i = w (i + p) := fun p hp i hi => by
    have := hp i
    rw [cyc_lt hi, cyc_lt (by omega)] at this
    exact this.symm
  -- a shorter repetition makes n - b a repetition
  have key : ∀ p, 0 < p → p ∣ n → p < n → Rp w n p → n % (n - b) = 0 ∧ n - b ≤ p := by
    intro p hp hd hlt hr
    have le := low p hp (by omega) (fin p hr)
    obtain ⟨q, hq⟩ := hd
    have hq2 : 2 ≤ q := by
      rcases Nat.lt_or_ge q 2 with c | c
      · have : q = 0 ∨ q = 1 := by omega
        rcases this with z | z
        · rw [z] at hq; omega
        · rw [z] at hq; omega
      · exact c
    have h2p : 2 * p ≤ n := by
      rw [hq, Nat.mul_comm 2 p]
      exact Nat.mul_le_mul_left p hq2
    have rs : Rp w n (n - b) := by
      intro i
      have e1 : cyc w n (i + (n - b)) = cyc w n (i % p + (n - b)) := by
        have := hr.mul (i / p) (i % p + (n - b))
        rw [← this]
        congr 1
        have := Nat.mod_add_div i p
        rw [Nat.mul_comm (i / p) p]
        omega
      have hm : i % p < p := Nat.mod_lt _ hp
      rw [e1, hr.mod (i := i), cyc_lt (show i % p + (n - b) < n by omega), cyc_lt (show i % p < n by omega)]
      exact (per _ (by omega)).symm
    -- p is a multiple of n - b
    have hmod : p % (n - b) = 0 := by
      rcases Nat.eq_zero_or_pos (p % (n - b)) with z | z
      · exact z
      · have lt : p % (n - b) < n - b := Nat.mod_lt _ hs
        have rm : Rp w n (p % (n - b)) := by
          intro i
          have a := rs.mul (p / (n - b)) (i + p % (n - b))
          have e : i + p % (n - b) + p / (n - b) * (n - b) = i + p := by
            rw [Nat.mul_comm, Nat.add_assoc, Nat.mod_add_div]
          rw [e] at a
          rw [← a]
          exact hr i
        have := low _ z (by omega) (fin _ rm)
        omega
    refine ⟨?_, le⟩
    exact Nat.mod_eq_zero_of_dvd (Nat.dvd_trans (Nat.dvd_of_mod_eq_zero hmod) ⟨q, hq⟩)
  by_cases c : n % (n - b) = 0
  · rw [if_pos c]
    refine ⟨hs, Nat.dvd_of_mod_eq_zero c, rp_of hs (Nat.dvd_of_mod_eq_zero c) hn per, fun p hp hd hr => ?_⟩
    exact low p hp (Nat.le_of_dvd hn hd) (fin p hr)
  · rw [if_neg c]
    refine ⟨hn, Nat.dvd_refl n, rp_self w n, fun p hp hd hr => ?_⟩
    have le := Nat.le_of_dvd hn hd
    rcases Nat.lt_or_ge p n with l | l
    · exact absurd (key p hp hd l hr).1 c
    · exact l
end Wd
/-! ### min(xs, default=d) of a list of ints: own rule -/
namespace MinD
open PySem PySem.W PyProof.Rows
def kwD (d : Value) : List (Str × Value) := [(Str.ofString "default", d)]
theorem nameL : (toString "min" ++ toString ".loop" : String) = "min.loop" := by decide
section
variable {prog : Program} {w : World} {A : Around} {R : Result → Shared → Prop} {I S : Addr} {fp wr : List Addr} {n : Nat} {P : Nat → Value → Prop} {St : Nat → Heap → Prop} {d : Value}
theorem loopD (W : Walks prog w A.in1 I fp wr n P St) (bt : Nat → Nat → Bool) (cm : CmpOf prog w A.in1 .Lt P bt) (nf : S ∉ fp) :
    ∀ (m j : Nat) (u : Shared) (best : Value) (c : Nat), n - (j + 1) = m → j + 1 ≤ n → St (j + 1) u.heap → P (argBest bt j) best →
    u.heap.get? S = some { cls := .type "list", dict := none, data := .seq #[best, best] c, slots := #[] } →
    (∀ v g tk, P (argBest bt (n - 1)) v → (∀ b o, b ∉ wr → b ≠ S → u.heap.get? b = some o → g.get? b = some o) → R (.ok (.ret v)) { u with heap := g, toks := tk }) →
    codeAny (model prog w) A (.builtin "min.loop" ⟨[.ref I, .none, .ref S], kwD d⟩) R u := by
  have nw : S ∉ wr := fun q => nf (W.sub _ q)
  intro m
  induction m with
  | zero =>
    intro j u best c em hj st pb gS out
    have ej : j + 1 = n := by omega
    refine codeAny_builtin PySem.F.entry_min_loop ?_
    rw [Around.under_plainId PySem.F.plain_min_loop _]
    show wpAny _ A.in1 (seqItems? (.ref S) >>= _) _ _ u
    refine wpAny_bind (wpAny_seqItems gS rfl ?_)
    show wpAny _ A.in1 (tryCatch (pyNext (.ref I)) _ >>= _) _ _ u
    refine wpAny_bind (wpAny_tryCatch (W.done u _ _ (ej ▸ st) fun g tk keep => ?_))
    have gS2 := keep S _ nw gS
    show wpAny _ A.in1 (updateSeq S (fun _ => #[]) >>= _) _ _ _
    refine wpAny_bind (wpAny_updateSeq gS2 rfl (wpAny_bind (wpAny_letGo (wpAny_pure ?_))))
    exact out best _ tk (by rw [← ej]; exact pb) fun b o hb hS e => (Heap.get?_update_other _ _ (Ne.symm hS)).trans (keep b o hb e)
  | succ m ih =>
    intro j u best c em hj st pb gS out
    have lt : j + 1 < n := by omega
    refine codeAny_builtin PySem.F.entry_min_loop ?_
    rw [Around.under_plainId PySem.F.plain_min_loop _]
    show wpAny _ A.in1 (seqItems? (.ref S) >>= _) _ _ u
    refine wpAny_bind (wpAny_seqItems gS rfl ?_)
    show wpAny _ A.in1 (tryCatch (pyNext (.ref I)) _ >>= _) _ _ u
    refine wpAny_bind (wpAny_tryCatch (W.item (j + 1) u _ _ lt st fun v g tk pv st2 keep => ?_))
    have gS2 := keep S _ nw gS
    show wpAny _ A.in1 (tryCatch (holding [v, v] (richCompare .Lt v best >>= _)) _ >>= _) _ _ _
    refine wpAny_bind (wpAny_tryCatch (wpAny_holding (wpAny_bind (cm (j + 1) (argBest bt j) v best _ _ _ pv pb ?_))))
    refine wpAny_bind (wpAny_holding (wpAny_truthy_bool (wpAny_bind (wpAny_letGo (wpAny_pure ?_)))))
    cases hb : bt (j + 1) (argBest bt j) with
    | true =>
      simp only [if_true]
      refine wpAny_bind (wpAny_updateSeq gS2 rfl (wpAny_bind (wpAny_letGo ?_)))
      rw [nameL]
      refine wpAny_pure ⟨plainId_quiet PySem.F.plain_min_loop _, ih (j + 1) _ v _ (by omega) lt (W.frame _ _ _ st2 fun b bf o e => ?_) (by simp only [argBest, hb, if_true]; exact pv) (Heap.get?_update_self _ gS2 rfl)
        fun v2 g2 tk2 p2 keep2 => ?_⟩
      · exact (Heap.get?_update_other _ _ (fun q : S = b => nf (by rw [q]; exact bf))).trans e
      · exact out v2 g2 tk2 p2 fun b o hw hS e => keep2 b o hw hS ((Heap.get?_update_other _ _ (Ne.symm hS)).trans (keep b o hw e))
    | false =>
      simp only [Bool.false_eq_true, if_false]
      refine wpAny_bind (wpAny_letGo ?_)
      rw [nameL]
      exact wpAny_pure ⟨plainId_quiet PySem.F.plain_min_loop _, ih (j + 1) _ best c (by omega) lt st2 (by simp only [argBest, hb, Bool.false_eq_true, if_false]; exact pb) gS2 fun v2 g2 tk2 p2 keep2 =>
        out v2 g2 tk2 p2 fun b o hw hS e => keep2 b o hw hS (keep b o hw e)⟩
theorem firstD (W : Walks prog w A.in1 I fp wr n P St) (bt : Nat → Nat → Bool) (cm : CmpOf prog w A.in1 .Lt P bt) (nf : S ∉ fp) {u : Shared} {c : Nat} (st : St 0 u.heap)
    (gS : u.heap.get? S = some { cls := .type "list", dict := none, data := .seq #[] c, slots := #[] })
    (out : ∀ v g tk, (0 < n → P (argBest bt (n - 1)) v) → (n = 0 → v = d) → (∀ b o, b ∉ wr → b ≠ S → u.heap.get? b = some o → g.get? b = some o) → R (.ok (.ret v)) { u with heap := g, toks := tk }) :
    codeAny (model prog w) A (.builtin "min.loop" ⟨[.ref I, .none, .ref S], kwD d⟩) R u := by
  have nw : S ∉ wr := fun q => nf (W.sub _ q)
  refine codeAny_builtin PySem.F.entry_min_loop ?_
  rw [Around.under_plainId PySem.F.plain_min_loop _]
  show wpAny _ A.in1 (seqItems? (.ref S) >>= _) _ _ u
  refine wpAny_bind (wpAny_seqItems gS rfl ?_)
  show wpAny _ A.in1 (tryCatch (pyNext (.ref I)) _ >>= _) _ _ u
  by_cases h0 : 0 < n
  · refine wpAny_bind (wpAny_tryCatch (W.item 0 u _ _ h0 st fun v g tk pv st2 keep => ?_))
    have gS2 := keep S _ nw gS
    show wpAny _ A.in1 (updateSeq S (fun _ => #[v, v]) >>= _) _ _ _
    refine wpAny_bind (wpAny_updateSeq gS2 rfl ?_)
    rw [nameL]
    refine wpAny_pure ⟨plainId_quiet PySem.F.plain_min_loop _, loopD W bt cm nf _ 0 _ v _ rfl h0 (W.frame _ _ _ st2 fun b bf o e => ?_) pv (Heap.get?_update_self _ gS2 rfl) fun v2 g2 tk2 p2 keep2 => ?_⟩
    · exact (Heap.get?_update_other _ _ (fun q : S = b => nf (by rw [q]; exact bf))).trans e
    · exact out v2 g2 tk2 (fun _ => p2) (fun z => by omega) fun b o hw hS e => keep2 b o hw hS ((Heap.get?_update_other _ _ (Ne.symm hS)).trans (keep b o hw e))
  · have e0 : n = 0 := by omega
    refine wpAny_bind (wpAny_tryCatch (W.done u _ _ (by rw [e0]; exact st) fun g tk keep => ?_))
    show wpAny _ A.in1 (rule _ >>= _) _ _ _
    refine wpAny_bind (wpAny_rule (wpAny_pure ?_))
    exact out d g tk (fun z => absurd z h0) (fun _ => rfl) fun b o hw _ e => keep b o hw e
end
section
variable {prog : Program} {w : World} {A : Around} {E : Value → Shared → Prop} {s : Shared} {d : Value}
theorem args_d (a v : Value) : argsOk "min" ⟨[a], kwD v⟩ := by
  unfold argsOk
  kernel_rfl
theorem callD {l : Addr} {xs : Array (Int × Tok)} {Q : Value → Shared → Prop} (hh : A.handled = none) (hl : s.heap.IsList l (intItems xs))
    (h : ∀ v g tk, (0 < xs.size → (intItems xs)[argBest (fun i j => decide (numAt xs i < numAt xs j)) (xs.size - 1)]? = some v) → (xs.size = 0 → v = d) → (∀ b o, s.heap.get? b = some o → g.get? b = some o) → Q v { s with heap := g, toks := tk }) :
    wpAny (model prog w) A (call (.builtin "min") [.ref l] (kwD d)) Q E s := by
  refine kmk_tree PySem.F.kind_min PySem.F.plain_min PySem.F.entry_min (args_d _ _) ?_
  show wpAny _ A.in1 (Builtin.Builtins.bindParams "min" ["key", "default"] 0 ⟨[], kwD d⟩ >>= _) _ _ s
  refine wpAny_bind (wpAny_of_eq (show Builtin.Builtins.bindParams "min" ["key", "default"] 0 ⟨[], kwD d⟩ = pure [none, some d] from rfl) ?_)
  refine wpAny_bind (wpAny_pure ?_)
  refine wpAny_bind (iter_intList hl fun u eu st hfp hlI => ?_)
  subst eu
  refine wpAny_bind (wpAny_newObj_type ?_)
  rw [nameL]
  refine wpAny_pure ⟨plainId_quiet PySem.F.plain_min_loop _, firstD (Walks.list (A := A.in1) hh _ l hlI (intItems xs)) _ (CmpOf.ints_lt (numAt xs) (fun _ _ => intItems_at)) (fun hm => Nat.lt_irrefl _ (hfp _ hm)) ?_ (Heap.get?_push_size _ rfl) fun v g tk p1 p2 keep => ?_⟩
  · exact (Walks.list (prog := prog) (w := w) (A := A.in1) hh _ l hlI (intItems xs)).frame _ _ _ st fun b _ o e => Heap.get?_push_of_some _ e
  · have hsz : (intItems xs).size = xs.size := by simp [intItems]
    refine h v g tk (fun z => by have := p1 (by rw [hsz]; exact z); rw [hsz] at this; exact this) (fun z => p2 (by rw [hsz]; exact z)) (old_kept (l := l) fun b o hb e => ?_)
    exact keep b o hb (Nat.ne_of_lt (Heap.lt_size e)) (Heap.get?_push_of_some _ e)
end
theorem rawD {prog : Program} {w : World} {A : Around} {E : Value → Shared → Prop} {s : Shared} {l : Addr} {its : List Value} {ns : List Int} {z : Int} {t : Tok} {Q : Value → Shared → Prop} (hh : A.handled = none) (hl : s.heap.IsList l its.toArray) (hi : IntsAre its ns)
    (h : ∀ (g : Heap) (tk : Nat) (m : Int) (t' : Tok), (∀ b o, s.heap.get? b = some o → g.get? b = some o) → (ns = [] → m = z) → (ns ≠ [] → m ∈ ns ∧ ∀ y ∈ ns, m ≤ y) → Q (.int m t') { s with heap := g, toks := tk }) :
    wpAny (model prog w) A (call (.builtin "min") [.ref l] (kwD (.int z t))) Q E s := by
  obtain ⟨xs, e⟩ := hi.allInts.items
  have hn : numsOf (intItems xs).toList = ns := by rw [← e]; exact hi.numsOf
  rw [PySem.nums_intItems] at hn
  subst hn
  rw [e] at hl
  refine callD hh hl fun v g tk p1 p2 keep => ?_
  by_cases c : 0 < xs.size
  · obtain ⟨u, rfl⟩ := intItems_at (p1 c)
    obtain ⟨a1, a2⟩ := argBest_lt (numAt xs) (xs.size - 1)
    refine h g tk _ u keep (fun z => ?_) fun _ => ⟨?_, fun y hy => ?_⟩
    · have q : xs.size = 0 := by simpa using congrArg List.length z
      omega
    · rw [PySem.numAt_eq]
      refine PySem.getD_mem ?_
      rw [List.length_map, Array.length_toList]
      exact Nat.lt_of_le_of_lt a1 (by omega)
    · obtain ⟨j, hj, rfl⟩ := PySem.mem_getD hy
      rw [List.length_map, Array.length_toList] at hj
      rw [← PySem.numAt_eq]
      exact a2 j (by omega)
  · rw [p2 (by omega)]
    refine h g tk z t keep (fun _ => rfl) fun q => absurd ?_ q
    have : xs = #[] := Array.eq_empty_of_size_eq_zero (by omega)
    rw [this]
    rfl
end MinD
namespace Bx
open PySem PySem.Spec PyProof.Rows L2
def rMinD (K : PySem.W.Frag) : List V → List V → Hp → VK → Prop := fun xs zs H Q => ∃ (a : Addr) (ns : List Int) (z : Int), xs = [.ref a] ∧ zs = [.int z] ∧ SqL K H a (ns.map V.int) ∧
  ∀ m, (ns = [] → m = z) → (ns ≠ [] → m ∈ ns ∧ ∀ y ∈ ns, m ≤ y) → Q (.int m) H
theorem call_minD {X : Cx} {K : PySem.W.Frag} (h : X.K = K) (hc : X.calm = true) : CallRK X (.builtin "min") ["default"] (rMinD K) := by
  subst h
  intro pins s σ H xs zs us ws Q I r r2 hw
  obtain ⟨a, ns, z, rfl, rfl, hs, q⟩ := hw
  obtain ⟨its, rv, hl, _⟩ := I.list hs
  rw [Vals.ref1 r]
  obtain ⟨u, rfl, ru⟩ := vals1 r2
  obtain ⟨t, rfl⟩ := ru
  exact MinD.rawD (I.ok.hd hc) hl.isList rv.ints fun g tk m t' hk h1 h2 => ⟨.int m, H, I.kept hk, ⟨_, rfl⟩, q m h1 h2⟩
end Bx
namespace Bx
open PySem PySem.Spec PyProof.Rows L2
/-! ### rules over the written part by its name -/
section
variable {X : Cx} {K : PySem.W.Frag}
theorem ix_tupK (h : X.K = K) : IxR X (rIxT K) := h ▸ ix_tup
theorem ix_listK (h : X.K = K) : IxR X (rIxL K) := h ▸ ix_list
theorem ix_seqK (h : X.K = K) : IxR X (rIx K) := h ▸ ix_seq
def rLen (K : PySem.W.Frag) : List V → Hp → VK → Prop := fun xs H Q => ∃ (p : Addr) (ys : List V), xs = [.ref p] ∧ (SqL K H p ys ∨ SqT K H p ys) ∧ Q (.int ys.length) H
theorem call_lenK (h : X.K = K) : CallR X (.builtin "len") (rLen K) := by
  subst h
  exact call_len_seq
def rTupOf (K : PySem.W.Frag) : List V → Hp → VK → Prop := fun xs H Q => ∃ (p : Addr) (ys : List V), xs = [.ref p] ∧ ((SqL K H p ys ∧ ∀ l, H l = none → Q (.ref l) (upd H l (.tup ys))) ∨ (SqT K H p ys ∧ Q (.ref p) H))
theorem call_tuple_ofK (h : X.K = K) : CallR X (.type "tuple") (rTupOf K) := by
  subst h
  exact call_tuple_of
def rLstOf (K : PySem.W.Frag) : List V → Hp → VK → Prop := fun xs H Q => ∃ (p : Addr) (ys : List V), xs = [.ref p] ∧ (SqL K H p ys ∨ SqT K H p ys) ∧ ∀ l, H l = none → Q (.ref l) (upd H l (.lst ys))
theorem call_list_ofK (h : X.K = K) : CallR X (.type "list") (rLstOf K) := by
  subst h
  exact call_list_of
end
end Bx
/-! ### heaps: what one list at d may lose, all else as it was -/
namespace Bx
open PySem PySem.Spec PyProof.Rows L2
def Kp (d : Addr) (H H' : Hp) : Prop := ∀ b o, b ≠ d → H b = some o → H' b = some o
theorem Kp.refl (d : Addr) (H : Hp) : Kp d H H := fun _ _ _ h => h
theorem Kp.trans {d : Addr} {H H1 H2 : Hp} (a : Kp d H H1) (b : Kp d H1 H2) : Kp d H H2 := fun c o n h => b c o n (a c o n h)
theorem Same.kp {d : Addr} {H H' : Hp} (s : Same H H') : Kp d H H' := fun b o _ h => s b o h
theorem Kp.own {d : Addr} {H : Hp} {o : HO} : Kp d H (upd H d o) := fun b _ n h => by rw [upd_ne n]; exact h
theorem same_new {H : Hp} {p : Addr} {o : HO} (h : H p = none) : Same H (upd H p o) := fun b x e => by
  rw [upd_ne (ne_of_none e h)]
  exact e
theorem Kp.new {d p : Addr} {H : Hp} {o : HO} (h : H p = none) : Kp d H (upd H p o) := Same.kp (same_new h)
theorem upd_self {H : Hp} {d : Addr} {o : HO} (h : H d = some o) : upd H d o = H := by
  funext b
  by_cases e : b = d
  · rw [e, upd_same, h]
  · rw [upd_ne e]
/-- a list of ints at d -/
def Ints (H : Hp) (d : Addr) (xs : List Int) : Prop := H d = some (.lst (xs.map V.int))
/-- the draws: some list of ints -/
def Drw (H : Hp) (d : Addr) : Prop := ∃ ds : List Int, H d = some (.lst (ds.map V.int))
theorem Drw.new {H : Hp} {d p : Addr} {o : HO} (h : Drw H d) (n : H p = none) : Drw (upd H p o) d := by
  obtain ⟨ds, e⟩ := h
  exact ⟨ds, same_new n _ _ e⟩
theorem Drw.own {H : Hp} {d : Addr} {ds : List Int} : Drw (upd H d (.lst (ds.map V.int))) d := ⟨ds, upd_same⟩
theorem Drw.same {H H' : Hp} {d : Addr} (h : Drw H d) (s : Same H H') : Drw H' d := by
  obtain ⟨ds, e⟩ := h
  exact ⟨ds, s _ _ e⟩
/-- a tuple of ints -/
def TupI (H : Hp) (a : Addr) (xs : List Int) : Prop := H a = some (.tup (xs.map V.int))
theorem Drw.ne_tup {H : Hp} {d a : Addr} {xs : List V} (h : Drw H d) (e : H a = some (.tup xs)) : a ≠ d := by
  obtain ⟨ds, e2⟩ := h
  exact ne_of e e2 (by intro z; cases z)
/-- a lasso: a pair of tuples of ints -/
def Las (H : Hp) (p : Addr) (h l : List Int) : Prop := ∃ a b, H p = some (.tup [.ref a, .ref b]) ∧ H a = some (.tup (h.map V.int)) ∧ H b = some (.tup (l.map V.int))
theorem Las.keep {H H' : Hp} {d p : Addr} {h l : List Int} (k : Kp d H H') (w : Drw H d) (x : Las H p h l) : Las H' p h l := by
  obtain ⟨a, b, e1, e2, e3⟩ := x
  exact ⟨a, b, k _ _ (w.ne_tup e1) e1, k _ _ (w.ne_tup e2) e2, k _ _ (w.ne_tup e3) e3⟩
theorem Las.same {H H' : Hp} {p : Addr} {h l : List Int} (k : Same H H') (x : Las H p h l) : Las H' p h l := by
  obtain ⟨a, b, e1, e2, e3⟩ := x
  exact ⟨a, b, k _ _ e1, k _ _ e2, k _ _ e3⟩
theorem lenI {xs : List Int} (h : xs.length ≤ 1000000) : (xs.map V.int).length < sizeLine := by
  rw [List.length_map]
  exact Nat.lt_of_le_of_lt h (by decide)
theorem ixN_at {n j : Nat} (h : j < n) : ixN n (j : Int) = some j := by
  unfold ixN
  rw [if_pos (by omega), if_pos (by omega)]
  rfl
theorem set_mapI {xs : List Int} {j : Nat} {v : Int} : (xs.map V.int).set j (.int v) = (xs.set j v).map V.int := by rw [List.map_set]
/-- a list or a tuple of ints -/
def SeqI (H : Hp) (a : Addr) (xs : List Int) : Prop := H a = some (.lst (xs.map V.int)) ∨ H a = some (.tup (xs.map V.int))
theorem SeqI.sq {K : PySem.W.Frag} {H : Hp} {a : Addr} {xs : List Int} (h : SeqI H a xs) : SqL K H a (xs.map V.int) ∨ SqT K H a (xs.map V.int) := by
  rcases h with h | h
  · exact .inl (.of h)
  · exact .inr (.of h)
theorem SeqI.same {H H' : Hp} {a : Addr} {xs : List Int} (k : Same H H') (h : SeqI H a xs) : SeqI H' a xs := by
  rcases h with h | h
  · exact .inl (k _ _ h)
  · exact .inr (k _ _ h)
/-- a pair of lists or tuples of ints -/
def Pr (H : Hp) (p : Addr) (h l : List Int) : Prop := ∃ a b, H p = some (.tup [.ref a, .ref b]) ∧ SeqI H a h ∧ SeqI H b l
theorem Las.pr {H : Hp} {p : Addr} {h l : List Int} (x : Las H p h l) : Pr H p h l := by
  obtain ⟨a, b, e1, e2, e3⟩ := x
  exact ⟨a, b, e1, .inr e2, .inr e3⟩
theorem Pr.same {H H' : Hp} {p : Addr} {h l : List Int} (k : Same H H') (x : Pr H p h l) : Pr H' p h l := by
  obtain ⟨a, b, e1, e2, e3⟩ := x
  exact ⟨a, b, k _ _ e1, e2.same k, e3.same k⟩
/-- an item -/
theorem ixq {K : PySem.W.Frag} {H : Hp} {a : Addr} {xs : List Int} {i : Int} {j : Nat} {v : V} {Q : VK} (h : SeqI H a xs) (ei : i = (j : Int)) (e : (xs.map V.int)[j]? = some v) (q : Q v H) : rIx K (.ref a) (.int i) H Q := by
  subst ei
  rcases h with h | h
  · exact .inl ⟨_, _, _, _, rfl, rfl, .of h, atI_nat e, q⟩
  · exact .inr (.inl ⟨_, _, _, _, rfl, rfl, .of h, atI_nat e, q⟩)
theorem ixq_last {K : PySem.W.Frag} {H : Hp} {a : Addr} {xs : List Int} {z : Int} {Q : VK} (h : SeqI H a xs) (e : xs.getLast? = some z) (q : Q (.int z) H) : rIx K (.ref a) (.int (-1)) H Q := by
  obtain ⟨ys, rfl⟩ := List.getLast?_eq_some_iff.mp e
  have g : atI ((ys ++ [z]).map V.int) (-1) = some (.int z) := by
    rw [List.map_append]
    exact atI_last _ _
  rcases h with h | h
  · exact .inl ⟨_, _, _, _, rfl, rfl, .of h, g, q⟩
  · exact .inr (.inl ⟨_, _, _, _, rfl, rfl, .of h, g, q⟩)
theorem at_map {xs : List Int} {j : Nat} (h : j < xs.length) : (xs.map V.int)[j]? = some (.int (xs.getD j 0)) := by
  rw [List.getElem?_map, List.getElem?_eq_getElem h, List.getD_eq_getElem?_getD, List.getElem?_eq_getElem h]
  rfl
/-! slices -/
section
variable {X : Cx} {K : PySem.W.Frag}
def rSlQ (K : PySem.W.Frag) : V → Option Int → Option Int → Hp → VK → Prop := fun x lo hi H Q => rSlL K x lo hi H Q ∨ rSlA K x lo hi H Q
theorem sl_seqK (h : X.K = K) : SlR X (rSlQ K) := by
  subst h
  exact sl_list.or sl_tupA
theorem sl_tupK (h : X.K = K) : SlR X (rSlA K) := by
  subst h
  exact sl_tupA
theorem sl_listK (h : X.K = K) : SlR X (rSlL K) := by
  subst h
  exact sl_list
theorem op_catK (h : X.K = K) : OpR X (binaryOp .Add) (rCatA K) := by
  subst h
  exact op_catA
theorem op_repTK (h : X.K = K) : OpR X (binaryOp .Mult) (rRepT K) := by
  subst h
  exact op_repT
theorem op_eqDK (h : X.K = K) (hu : X.A.units + 64 < cLine) : OpR X (compareOp .Eq) (rEqD K) := by
  subst h
  exact op_eqD hu
theorem op_neDK (h : X.K = K) (hu : X.A.units + 64 < cLine) : OpR X (compareOp .NotEq) (rNeD K) := by
  subst h
  exact op_neD hu
theorem call_minK (h : X.K = K) (hc : X.calm = true) : CallR X (.builtin "min") (rMin K) := by
  subst h
  exact cr_min hc
theorem call_isiK' (h : X.K = K) : CallR X (.builtin "isinstance") (rIsi K) := by
  subst h
  exact call_isi
end
theorem cut_map {xs : List Int} {lo hi : Option Int} : cutV (xs.map V.int) lo hi = ((xs.drop (HT.sIx xs.length 0 lo)).take (HT.sIx xs.length xs.length hi - HT.sIx xs.length 0 lo)).map V.int := by
  unfold cutV
  rw [List.length_map, List.map_take, List.map_drop]
/-- a slice of a tuple -/
theorem slt {K : PySem.W.Frag} {H : Hp} {a : Addr} {xs ys : List Int} {lo hi : Option Int} {Q : VK} (h : TupI H a xs) (e : (xs.drop (HT.sIx xs.length 0 lo)).take (HT.sIx xs.length xs.length hi - HT.sIx xs.length 0 lo) = ys)
    (q : ∀ (H' : Hp) (p : Addr), Same H H' → TupI H' p ys → Q (.ref p) H') : rSlA K (.ref a) lo hi H Q := by
  subst e
  refine ⟨a, _, rfl, .of h, fun w => ?_, fun _ p hp => q _ p (same_new hp) ?_⟩
  · refine q H a (Same.refl H) ?_
    rw [List.length_map] at w
    rw [w.1, w.2, List.drop_zero, Nat.sub_zero, List.take_length]
    exact h
  · unfold TupI
    rw [upd_same, cut_map]
/-- a slice of a list or tuple -/
theorem slq {K : PySem.W.Frag} {H : Hp} {a : Addr} {xs ys : List Int} {lo hi : Option Int} {Q : VK} (h : SeqI H a xs) (e : (xs.drop (HT.sIx xs.length 0 lo)).take (HT.sIx xs.length xs.length hi - HT.sIx xs.length 0 lo) = ys)
    (q : ∀ (H' : Hp) (p : Addr), Same H H' → SeqI H' p ys → Q (.ref p) H') : rSlQ K (.ref a) lo hi H Q := by
  rcases h with h | h
  · subst e
    refine .inl ⟨a, _, rfl, .of h, fun p hp => q _ p (same_new hp) (.inl ?_)⟩
    rw [upd_same, cut_map]
  · exact .inr (slt h e fun H' p s t => q H' p s (.inr t))
theorem cut_to (xs : List Int) (n : Nat) : (xs.drop (HT.sIx xs.length 0 none)).take (HT.sIx xs.length xs.length (some (n : Int)) - HT.sIx xs.length 0 none) = xs.take n := by
  rw [HT.sIx_none, HT.sIx_nat, List.drop_zero, Nat.sub_zero]
  rcases Nat.le_total n xs.length with c | c
  · rw [Nat.min_eq_left c]
  · rw [Nat.min_eq_right c, List.take_length, List.take_of_length_le c]
theorem cut_from (xs : List Int) {n : Nat} (hn : n ≤ xs.length) : (xs.drop (HT.sIx xs.length 0 (some (n : Int)))).take (HT.sIx xs.length xs.length none - HT.sIx xs.length 0 (some (n : Int))) = xs.drop n := by
  rw [HT.sIx_none, HT.sIx_nat, Nat.min_eq_left hn]
  exact List.take_of_length_le (by rw [List.length_drop]; exact Nat.le_refl _)
theorem slt_to {K : PySem.W.Frag} {H : Hp} {a : Addr} {xs : List Int} {k : Int} {n : Nat} {Q : VK} (h : TupI H a xs) (ek : k = (n : Int))
    (q : ∀ (H' : Hp) (p : Addr), Same H H' → TupI H' p (xs.take n) → Q (.ref p) H') : rSlA K (.ref a) none (some k) H Q := by
  subst ek
  exact slt h (cut_to xs n) q
theorem slt_from {K : PySem.W.Frag} {H : Hp} {a : Addr} {xs : List Int} {k : Int} {n : Nat} {Q : VK} (h : TupI H a xs) (ek : k = (n : Int)) (hn : n ≤ xs.length)
    (q : ∀ (H' : Hp) (p : Addr), Same H H' → TupI H' p (xs.drop n) → Q (.ref p) H') : rSlA K (.ref a) (some k) none H Q := by
  subst ek
  exact slt h (cut_from xs hn) q
theorem slq_to {K : PySem.W.Frag} {H : Hp} {a : Addr} {xs : List Int} {k : Int} {n : Nat} {Q : VK} (h : SeqI H a xs) (ek : k = (n : Int))
    (q : ∀ (H' : Hp) (p : Addr), Same H H' → SeqI H' p (xs.take n) → Q (.ref p) H') : rSlQ K (.ref a) none (some k) H Q := by
  subst ek
  exact slq h (cut_to xs n) q
theorem slq_mid {K : PySem.W.Frag} {H : Hp} {a : Addr} {xs : List Int} {k k2 : Int} {n m : Nat} {Q : VK} (h : SeqI H a xs) (ek : k = (n : Int)) (ek2 : k2 = (m : Int)) (hn : n ≤ xs.length) (hm : m ≤ xs.length)
    (q : ∀ (H' : Hp) (p : Addr), Same H H' → SeqI H' p ((xs.drop n).take (m - n)) → Q (.ref p) H') : rSlQ K (.ref a) (some k) (some k2) H Q := by
  subst ek
  subst ek2
  refine slq h ?_ q
  rw [HT.sIx_nat, HT.sIx_nat, Nat.min_eq_left hn, Nat.min_eq_left hm]
/-- tuple(x) -/
theorem tupq {K : PySem.W.Frag} {H : Hp} {a : Addr} {xs : List Int} {Q : VK} (h : SeqI H a xs) (q : ∀ (H' : Hp) (p : Addr), Same H H' → TupI H' p xs → Q (.ref p) H') : rTupOf K [.ref a] H Q := by
  rcases h with h | h
  · exact ⟨a, _, rfl, .inl ⟨.of h, fun p hp => q _ p (same_new hp) upd_same⟩⟩
  · exact ⟨a, _, rfl, .inr ⟨.of h, q H a (Same.refl H) h⟩⟩
/-- x + y of tuples -/
theorem catq {K : PySem.W.Frag} {H : Hp} {a b : Addr} {xs ys : List Int} {Q : VK} (h : TupI H a xs) (g : TupI H b ys) (hl : xs.length + ys.length ≤ 1000000) (q : ∀ (H' : Hp) (p : Addr), Same H H' → TupI H' p (xs ++ ys) → Q (.ref p) H') : rCatA K (.ref a) (.ref b) H Q := by
  refine ⟨a, b, _, _, rfl, rfl, .of h, .of g, ?_, fun z => ?_, fun _ z => ?_, fun _ _ p hp => ?_⟩
  · rw [List.length_map, List.length_map]
    exact Nat.le_trans hl (by decide)
  · have e : xs = [] := List.map_eq_nil_iff.mp z
    refine q H b (Same.refl H) ?_
    rw [e]
    exact g
  · have e : ys = [] := List.map_eq_nil_iff.mp z
    refine q H a (Same.refl H) ?_
    rw [e, List.append_nil]
    exact h
  · refine q _ p (same_new hp) ?_
    unfold TupI
    rw [upd_same, List.map_append]
/-- a slice of a list -/
theorem sll_from {K : PySem.W.Frag} {H : Hp} {a : Addr} {xs : List Int} {k : Int} {n : Nat} {Q : VK} (h : H a = some (.lst (xs.map V.int))) (ek : k = (n : Int)) (hn : n ≤ xs.length)
    (q : ∀ p, H p = none → Q (.ref p) (upd H p (.lst ((xs.drop n).map V.int)))) : rSlL K (.ref a) (some k) none H Q := by
  subst ek
  refine ⟨a, _, rfl, .of h, fun p hp => ?_⟩
  rw [cut_map, cut_from xs hn]
  exact q p hp
theorem sll_to {K : PySem.W.Frag} {H : Hp} {a : Addr} {xs : List Int} {k : Int} {n : Nat} {Q : VK} (h : H a = some (.lst (xs.map V.int))) (ek : k = (n : Int))
    (q : ∀ p, H p = none → Q (.ref p) (upd H p (.lst ((xs.take n).map V.int)))) : rSlL K (.ref a) none (some k) H Q := by
  subst ek
  refine ⟨a, _, rfl, .of h, fun p hp => ?_⟩
  rw [cut_map, cut_to xs n]
  exact q p hp
/-! == of data -/
theorem eqvAll_int : ∀ xs ys : List Int, PyData.eqvAll (xs.map PyData.int) (ys.map PyData.int) = decide (xs = ys)
  | [], [] => by simp [PyData.eqvAll]
  | [], y :: ys => by simp [PyData.eqvAll]
  | x :: xs, [] => by simp [PyData.eqvAll]
  | x :: xs, y :: ys => by
    rw [List.map_cons, List.map_cons, PyData.eqvAll, eqvAll_int xs ys, PyData.eqv]
    by_cases c : x = y
    · by_cases d : xs = ys
      · simp [c, d]
      · simp [c, d]
    · simp [c]
theorem eqv_tup (xs ys : List Int) : PyData.eqv (.tuple (xs.map PyData.int)) (.tuple (ys.map PyData.int)) = decide (xs = ys) := by
  rw [PyData.eqv]
  exact eqvAll_int xs ys
theorem eqv_lst (xs ys : List Int) : PyData.eqv (.list (xs.map PyData.int)) (.list (ys.map PyData.int)) = decide (xs = ys) := by
  rw [PyData.eqv]
  exact eqvAll_int xs ys
theorem layAll : ∀ xs : List Int, PyData.canLayAll0 (xs.map PyData.int) = true
  | [] => rfl
  | x :: xs => by
    rw [List.map_cons, PyData.canLayAll0, layAll xs]
    rfl
theorem depAll : ∀ xs : List Int, PyData.depthAll (xs.map PyData.int) = 0
  | [] => by simp [PyData.depthAll]
  | x :: xs => by
    rw [List.map_cons, PyData.depthAll, depAll xs]
    simp [PyData.depth]
theorem shaped_tup (xs : List Int) : SeqAt.shaped (.tuple (xs.map PyData.int)) = true := by
  unfold SeqAt.shaped
  rw [PyData.canLay0, layAll, PyData.depth, depAll]
  rfl
theorem shaped_lst (xs : List Int) : SeqAt.shaped (.list (xs.map PyData.int)) = true := by
  unfold SeqAt.shaped
  rw [PyData.canLay0, layAll, PyData.depth, depAll]
  rfl
theorem dpAll_int {K : PySem.W.Frag} {H : Hp} : ∀ xs : List Int, DpAll K H (xs.map V.int) (xs.map PyData.int)
  | [] => .nil
  | x :: xs => .cons (.int x) (dpAll_int xs)
theorem dp_lst {K : PySem.W.Frag} {H : Hp} {a : Addr} {xs : List Int} (h : H a = some (.lst (xs.map V.int))) : Dp K H (.ref a) (.list (xs.map PyData.int)) := .lst (.of h) (dpAll_int xs)
theorem dp_tup {K : PySem.W.Frag} {H : Hp} {a : Addr} {xs : List Int} (h : TupI H a xs) : Dp K H (.ref a) (.tuple (xs.map PyData.int)) := .tup (.of h) (dpAll_int xs)
theorem ite_ne {x y : Int} {A B : Prop} (h1 : x ≠ y → A) (h2 : x = y → B) : if (!decide (V.int x = V.int y)) = true then A else B := by
  by_cases c : x = y
  · rw [c, decide_eq_true rfl]
    exact iteF (h2 c)
  · rw [decide_eq_false (fun z => c (V.int.inj z))]
    exact iteT (h1 c)
theorem ite_eq {x y : Int} {A B : Prop} (h1 : x = y → A) (h2 : x ≠ y → B) : if decide (V.int x = V.int y) = true then A else B := by
  by_cases c : x = y
  · rw [c, decide_eq_true rfl]
    exact iteT (h1 c)
  · rw [decide_eq_false (fun z => c (V.int.inj z))]
    exact iteF (h2 c)
theorem ite_lt {x y : Int} {A B : Prop} (h1 : x < y → A) (h2 : y ≤ x → B) : if decide (x < y) = true then A else B := by
  by_cases c : x < y
  · rw [decide_eq_true c]
    exact iteT (h1 c)
  · rw [decide_eq_false c]
    exact iteF (h2 (by omega))
/-! ### the letters of a word -/
def wat (h l : List Int) (t : Nat) : Int := if t < h.length then h.getD t 0 else l.getD ((t - h.length) % l.length) 0
theorem wat_head {h l : List Int} {t : Nat} (c : t < h.length) : (h.map V.int)[t]? = some (.int (wat h l t)) := by
  unfold wat
  rw [if_pos c, List.getElem?_map, List.getElem?_eq_getElem c, List.getD_eq_getElem?_getD, List.getElem?_eq_getElem c]
  rfl
theorem wat_loop {h l : List Int} {t : Nat} (c : ¬ t < h.length) (n : l ≠ []) : (l.map V.int)[(t - h.length) % l.length]? = some (.int (wat h l t)) := by
  have hl : 0 < l.length := List.length_pos_iff.mpr n
  have c2 : (t - h.length) % l.length < l.length := Nat.mod_lt _ hl
  unfold wat
  rw [if_neg c, List.getElem?_map, List.getElem?_eq_getElem c2, List.getD_eq_getElem?_getD, List.getElem?_eq_getElem c2]
  rfl
theorem ix_mod {t n m : Nat} (h : n ≤ t) : ((t : Int) - (n : Int)) % (m : Int) = (((t - n) % m : Nat) : Int) := by
  have e : ((t : Int) - (n : Int)) = ((t - n : Nat) : Int) := by omega
  rw [e]
  rfl
/-! ### promises of the helpers -/
def spTake : Sp := fun vs H Q _ => ∃ (d : Addr) (n : Int), vs = [.ref d, .int n] ∧ Drw H d ∧ 0 < n ∧
  ∀ (r : Int) (ds : List Int), 0 ≤ r → r < n → Q (.int r) (upd H d (.lst (ds.map V.int)))
def spDraws (K : PySem.W.Frag) : Sp := fun vs H Q _ => ∃ (a : Addr) (ns : List Int) (c : Nat), vs = [.ref a, .int c] ∧ SqL K H a (ns.map V.int) ∧ c ≤ 1000 ∧
  ∀ (H' : Hp) (d : Addr), Same H H' → H d = none → Drw H' d → Q (.ref d) H'
def spAt : Sp := fun vs H Q _ => ∃ (p : Addr) (h l : List Int) (t : Nat), vs = [.ref p, .int t] ∧ Pr H p h l ∧ l ≠ [] ∧ Q (.int (wat h l t)) H
def spLasso : Sp := fun vs H Q _ => ∃ (d : Addr) (n : Int) (m : Nat), vs = [.ref d, .int n, .int m] ∧ Drw H d ∧ 0 < n ∧ 0 < m ∧ m ≤ 1000 ∧
  ∀ (H' : Hp) (p : Addr) (h l : List Int), Kp d H H' → Drw H' d → Las H' p h l → h.length ≤ m → l ≠ [] → l.length ≤ m → (∀ x ∈ h, 0 ≤ x ∧ x < n) → (∀ x ∈ l, 0 ≤ x ∧ x < n) → Q (.ref p) H'
/-- v says where f and g first differ below n -/
def IsDiff (f g : Nat → Int) (n : Nat) (v : V) : Prop := (v = .non ∧ ∀ t < n, f t = g t) ∨ ∃ t, t < n ∧ v = .int (t : Nat) ∧ f t ≠ g t ∧ ∀ s < t, f s = g s
theorem IsDiff.uniq {f g : Nat → Int} {n : Nat} {v u : V} (a : IsDiff f g n v) (b : IsDiff f g n u) : v = u := by
  rcases a with ⟨rfl, a⟩ | ⟨t, ht, rfl, a1, a2⟩
  · rcases b with ⟨rfl, b⟩ | ⟨s, hs, rfl, b1, b2⟩
    · rfl
    · exact absurd (a s hs) b1
  · rcases b with ⟨rfl, b⟩ | ⟨s, hs, rfl, b1, b2⟩
    · exact absurd (b t ht) a1
    · rcases Nat.lt_trichotomy t s with c | c | c
      · exact absurd (b2 t c) a1
      · rw [c]
      · exact absurd (a2 s c) b1
theorem IsDiff.swap {f g : Nat → Int} {n : Nat} {v : V} (a : IsDiff f g n v) : IsDiff g f n v := by
  rcases a with ⟨rfl, a⟩ | ⟨t, ht, rfl, a1, a2⟩
  · exact .inl ⟨rfl, fun t h => (a t h).symm⟩
  · exact .inr ⟨t, ht, rfl, a1.symm, fun s h => (a2 s h).symm⟩
def dfn (h1 l1 h2 l2 : List Int) : Nat := max h1.length h2.length + l1.length + l2.length
def spFd : Sp := fun vs H Q _ => ∃ (p q : Addr) (h1 l1 h2 l2 : List Int), vs = [.ref p, .ref q] ∧ Las H p h1 l1 ∧ Las H q h2 l2 ∧ l1 ≠ [] ∧ l2 ≠ [] ∧ dfn h1 l1 h2 l2 ≤ 1000000 ∧
  ∀ v, IsDiff (wat h1 l1) (wat h2 l2) (dfn h1 l1 h2 l2) v → Q v H
theorem max_if (a b : Nat) : (if ((b : Nat) : Int) > (a : Int) then (b : Int) else (a : Int)) = ((max a b : Nat) : Int) := by
  by_cases h : ((b : Nat) : Int) > (a : Int)
  · rw [if_pos h]
    omega
  · rw [if_neg h]
    omega
/-- the letters of a list, by places -/
def lw (l : List Int) : Nat → Int := fun i => l.getD i 0
def spPeriod : Sp := fun vs H Q _ => ∃ (a : Addr) (l : List Int), vs = [.ref a] ∧ SeqI H a l ∧ l ≠ [] ∧ l.length ≤ 1000000 ∧
  ∀ (H' : Hp) (r : Nat), Same H H' → Wd.Least (lw l) l.length r → Q (.int r) H'
/-- the normal form (h', l') of (h, l) -/
structure Short (h l h' l' : List Int) : Prop where
  ne : l' ≠ []
  same : ∀ t, wat h' l' t = wat h l t
  hl : h'.length ≤ h.length
  ll : l'.length ≤ l.length
  last : h' ≠ [] → h'.getLast? ≠ l'.getLast?
  prim : ∀ p, 0 < p → p < l'.length → p ∣ l'.length → ∃ i, i + p < l'.length ∧ lw l' i ≠ lw l' (i + p)
  memH : ∀ x ∈ h', x ∈ h
  memL : ∀ x ∈ l', x ∈ l
/-- the letter of the repeated word at any whole number of turns from where it begins -/
def bk (l : List Int) (r : Nat) (z : Int) : Int := lw l ((z % (r : Int)).toNat)
def rot (l : List Int) (r c : Nat) : List Int := (l.drop c).take (r - c) ++ l.take c
theorem rot_len {l : List Int} {r c : Nat} (hc : c < r) (hr : r ≤ l.length) : (rot l r c).length = r := by
  unfold rot
  rw [List.length_append, List.length_take, List.length_drop, List.length_take]
  omega
theorem lw_get {l : List Int} {i : Nat} (h : i < l.length) : l[i]? = some (lw l i) := by
  unfold lw
  rw [List.getD_eq_getElem?_getD, List.getElem?_eq_getElem h]
  rfl
theorem lw_of {l : List Int} {i : Nat} {x : Int} (h : l[i]? = some x) : lw l i = x := by
  unfold lw
  rw [List.getD_eq_getElem?_getD, h]
  rfl
theorem rot_at {l : List Int} {r c j : Nat} (hc : c < r) (hr : r ≤ l.length) (hj : j < r) : lw (rot l r c) j = lw l ((j + c) % r) := by
  apply lw_of
  unfold rot
  have e1 : ((l.drop c).take (r - c)).length = r - c := by
    rw [List.length_take, List.length_drop]
    omega
  rcases Nat.lt_or_ge j (r - c) with h | h
  · rw [List.getElem?_append_left (by rw [e1]; exact h), List.getElem?_take, if_pos h, List.getElem?_drop, Nat.mod_eq_of_lt (by omega), Nat.add_comm c j]
    exact lw_get (by omega)
  · rw [List.getElem?_append_right (by rw [e1]; exact h), e1, List.getElem?_take, if_pos (by omega)]
    have e2 : (j + c) % r = j - (r - c) := by
      rw [Nat.mod_eq_sub_mod (by omega), Nat.mod_eq_of_lt (by omega)]
      omega
    rw [e2]
    exact lw_get (by omega)
theorem bk_shift {l : List Int} {r : Nat} {a b z : Int} (h : a = b + r * z) : bk l r a = bk l r b := by
  unfold bk
  rw [h, Int.add_mul_emod_self_left]
theorem bk_nat {l : List Int} {r t : Nat} : bk l r (t : Int) = lw l (t % r) := rfl
theorem least_le {w : Nat → Int} {n r : Nat} (hn : 0 < n) (L : Wd.Least w n r) : r ≤ n := Nat.le_of_dvd hn L.dvd
/-- the letters of l repeated, by the least repetition -/
theorem cyc_least {l : List Int} {r : Nat} (hn : 0 < l.length) (L : Wd.Least (lw l) l.length r) (i : Nat) : lw l (i % l.length) = bk l r (i : Int) := by
  have h1 : Wd.cyc (lw l) l.length i = Wd.cyc (lw l) l.length (i % r) := L.rp.mod
  have h2 : Wd.cyc (lw l) l.length (i % r) = lw l (i % r) := Wd.cyc_lt (Nat.lt_of_lt_of_le (Nat.mod_lt _ L.pos) (least_le hn L))
  rw [bk_nat, ← h2, ← h1]
  rfl
theorem cut_lt {r : Nat} (hr : 0 < r) (z : Int) : (z % (r : Int)).toNat < r := by
  have h1 := Int.emod_nonneg z (show (r : Int) ≠ 0 by omega)
  have h2 := Int.emod_lt_of_pos z (show (0 : Int) < (r : Int) by omega)
  omega
theorem cut_int {r : Nat} (hr : 0 < r) (z : Int) : (((z % (r : Int)).toNat : Nat) : Int) = z - r * (z / r) := by
  have h1 := Int.emod_nonneg z (show (r : Int) ≠ 0 by omega)
  rw [Int.toNat_of_nonneg h1, Int.emod_def]
theorem rot_bk {l : List Int} {r : Nat} (hr0 : 0 < r) (hr : r ≤ l.length) (z : Int) (j : Nat) : lw (rot l r (z % (r : Int)).toNat) (j % r) = bk l r ((j : Int) + z) := by
  rw [rot_at (cut_lt hr0 z) hr (Nat.mod_lt _ hr0), Nat.mod_add_mod]
  have h : bk l r (((j + (z % (r : Int)).toNat : Nat)) : Int) = bk l r ((j : Int) + z) := bk_shift (z := -(z / r)) (by
    rw [Int.natCast_add, cut_int hr0, Int.mul_neg]
    omega)
  rw [← h]
  rfl
theorem short_of {h l : List Int} {r k : Nat} (hne : l ≠ []) (L : Wd.Least (lw l) l.length r) (hk : k ≤ h.length)
    (hB : ∀ t, k ≤ t → t < h.length → lw h t = bk l r ((t : Int) - (h.length : Int))) (hX : k = 0 ∨ lw h (k - 1) ≠ bk l r ((k : Int) - 1 - (h.length : Int))) :
    Short h l (h.take k) (rot l r (((k : Int) - (h.length : Int)) % (r : Int)).toNat) := by
  have hn : 0 < l.length := List.length_pos_iff.mpr hne
  have hr0 := L.pos
  have hr := least_le hn L
  have hlen := rot_len (cut_lt hr0 ((k : Int) - (h.length : Int))) hr
  have htk : (h.take k).length = k := by
    rw [List.length_take]
    omega
  refine ⟨fun z => ?_, fun t => ?_, by rw [htk]; exact hk, by rw [hlen]; exact hr, fun hh => ?_, fun p hp hpl hpd => ?_, fun x hx => List.mem_of_mem_take hx, fun x hx => ?_⟩
  · rw [z] at hlen
    have : (0 : Nat) = r := hlen
    omega
  · unfold wat
    rw [htk, hlen]
    by_cases c : t < k
    · rw [if_pos c, if_pos (by omega), List.getD_eq_getElem?_getD, List.getD_eq_getElem?_getD, List.getElem?_take, if_pos c]
    · rw [if_neg c]
      have e1 := rot_bk (l := l) hr0 hr ((k : Int) - (h.length : Int)) (t - k)
      have e2 : ((t - k : Nat) : Int) + ((k : Int) - (h.length : Int)) = (t : Int) - (h.length : Int) := by omega
      rw [e2] at e1
      show lw _ _ = _
      rw [e1]
      by_cases d : t < h.length
      · rw [if_pos d]
        exact (hB t (by omega) d).symm
      · rw [if_neg d]
        have e3 : (t : Int) - (h.length : Int) = ((t - h.length : Nat) : Int) := by omega
        rw [e3]
        exact (cyc_least hn L _).symm
  · have hk0 : k ≠ 0 := fun z => hh (by rw [z]; rfl)
    rcases hX with z | z
    · exact absurd z hk0
    · rw [List.getLast?_eq_getElem?, List.getLast?_eq_getElem?, htk, hlen]
      rw [List.getElem?_take, if_pos (by omega), lw_get (show k - 1 < h.length by omega), lw_get (show r - 1 < (rot l r _).length by rw [hlen]; omega)]
      intro q
      refine z ?_
      rw [Option.some.inj q]
      have e1 := rot_bk (l := l) hr0 hr ((k : Int) - (h.length : Int)) (r - 1)
      rw [Nat.mod_eq_of_lt (show r - 1 < r by omega)] at e1
      rw [e1]
      exact bk_shift (z := 1) (by omega)
  · rw [hlen] at hpl hpd ⊢
    apply Classical.byContradiction
    intro hno
    have hall : ∀ i, i + p < r → lw (rot l r (((k : Int) - (h.length : Int)) % (r : Int)).toNat) i = lw (rot l r (((k : Int) - (h.length : Int)) % (r : Int)).toNat) (i + p) := fun i hi =>
      Classical.byContradiction fun q => hno ⟨i, hi, q⟩
    have hrp := Wd.rp_of hp hpd hr0 hall
    have key : ∀ i, Wd.cyc (lw l) l.length i = Wd.cyc (lw (rot l r (((k : Int) - (h.length : Int)) % (r : Int)).toNat)) r (i + (r - (((k : Int) - (h.length : Int)) % (r : Int)).toNat)) := by
      intro i
      have hc := cut_lt hr0 ((k : Int) - (h.length : Int))
      have a1 : Wd.cyc (lw l) l.length i = bk l r (i : Int) := cyc_least hn L i
      have a2 := rot_at hc hr (Nat.mod_lt (i + (r - (((k : Int) - (h.length : Int)) % (r : Int)).toNat)) hr0)
      rw [a1]
      show _ = lw _ (_ % r)
      rw [a2, Nat.mod_add_mod, show i + (r - (((k : Int) - (h.length : Int)) % (r : Int)).toNat) + (((k : Int) - (h.length : Int)) % (r : Int)).toNat = i + r by omega, Nat.add_mod_right]
      rfl
    have hR : Wd.Rp (lw l) l.length p := fun i => by
      rw [key, key, Nat.add_right_comm]
      exact hrp _
    have := L.min p hp (Nat.dvd_trans hpd L.dvd) hR
    omega
  · unfold rot at hx
    rcases List.mem_append.mp hx with z | z
    · exact List.mem_of_mem_drop (List.mem_of_mem_take z)
    · exact List.mem_of_mem_take z
theorem rp_mod {w : Nat → Int} {n p q : Nat} (hp : Wd.Rp w n p) (hq : Wd.Rp w n q) : Wd.Rp w n (q % p) := fun i => by
  have a := hp.mul (q / p) (i + q % p)
  rw [Nat.mul_comm, Nat.add_assoc, Nat.mod_add_div] at a
  rw [← a]
  exact hq i
theorem rp_gcd {w : Nat → Int} {n : Nat} (p q : Nat) : Wd.Rp w n p → Wd.Rp w n q → Wd.Rp w n (Nat.gcd p q) := by
  induction p, q using Nat.gcd.induction with
  | H0 q => intro _ hq; rw [Nat.gcd_zero_left]; exact hq
  | H1 p q hp ih => intro h1 h2; rw [Nat.gcd_rec]; exact ih (rp_mod h1 h2) h1
/-- the normal form -/
structure Nrm (h l : List Int) : Prop where
  ne : l ≠ []
  last : h ≠ [] → h.getLast? ≠ l.getLast?
  prim : ∀ p, 0 < p → p < l.length → p ∣ l.length → ∃ i, i + p < l.length ∧ lw l i ≠ lw l (i + p)
theorem Short.nrm {h l h' l' : List Int} (s : Short h l h' l') : Nrm h' l' := ⟨s.ne, s.last, s.prim⟩
theorem Nrm.pos {h l : List Int} (N : Nrm h l) : 0 < l.length := List.length_pos_iff.mpr N.ne
theorem wat_cyc {h l : List Int} {t : Nat} (c : h.length ≤ t) : wat h l t = Wd.cyc (lw l) l.length (t - h.length) := by
  unfold wat
  rw [if_neg (by omega)]
  rfl
/-- every period that the word has from some turn on is a multiple of the loop's length -/
theorem Nrm.dvd {h l : List Int} (N : Nrm h l) {p M : Nat} (hP : ∀ t, M ≤ t → wat h l (t + p) = wat h l t) : l.length ∣ p := by
  have hr := N.pos
  have hRp : Wd.Rp (lw l) l.length p := fun i => by
    have self := Wd.rp_self (lw l) l.length
    have e1 := self.mul M i
    have e2 := self.mul M (i + p)
    have hM : M ≤ M * l.length := Nat.le_mul_of_pos_right M hr
    have q := hP (h.length + (i + M * l.length)) (by omega)
    rw [wat_cyc (by omega), wat_cyc (by omega)] at q
    rw [show h.length + (i + M * l.length) + p - h.length = i + p + M * l.length by omega, show h.length + (i + M * l.length) - h.length = i + M * l.length by omega, e1, e2] at q
    exact q
  have hg := rp_gcd p l.length hRp (Wd.rp_self (lw l) l.length)
  have gd : Nat.gcd p l.length ∣ l.length := Nat.gcd_dvd_right p l.length
  have gp : 0 < Nat.gcd p l.length := Nat.gcd_pos_of_pos_right p hr
  have gl := Nat.le_of_dvd hr gd
  rcases Nat.lt_or_ge (Nat.gcd p l.length) l.length with c | c
  · obtain ⟨i, hi, hne⟩ := N.prim _ gp c gd
    refine absurd ?_ hne
    have := hg i
    rw [Wd.cyc_lt hi, Wd.cyc_lt (by omega)] at this
    exact this.symm
  · have e : Nat.gcd p l.length = l.length := by omega
    rw [← e]
    exact Nat.gcd_dvd_left p l.length
theorem wat_per {h l : List Int} {t : Nat} (c : h.length ≤ t) : wat h l (t + l.length) = wat h l t := by
  rw [wat_cyc c, wat_cyc (by omega), show t + l.length - h.length = (t - h.length) + l.length by omega]
  exact Wd.rp_self (lw l) l.length _
theorem last_at {l : List Int} (n : l ≠ []) : l.getLast? = some (lw l (l.length - 1)) := by
  have := List.length_pos_iff.mpr n
  rw [List.getLast?_eq_getElem?]
  exact lw_get (by omega)
theorem Nrm.head_le {h l g m : List Int} (N : Nrm h l) (hs : ∀ t, wat h l t = wat g m t) (e : l.length = m.length) : h.length ≤ g.length := by
  rcases Nat.lt_or_ge g.length h.length with c | c
  · exfalso
    have hne : h ≠ [] := List.length_pos_iff.mp (by omega)
    refine N.last hne ?_
    rw [last_at hne, last_at N.ne]
    congr 1
    have hp := N.pos
    have a1 : wat h l (h.length - 1) = lw h (h.length - 1) := by
      unfold wat
      rw [if_pos (by omega)]
      rfl
    have a2 : wat h l (h.length - 1 + l.length) = lw l (l.length - 1) := by
      rw [wat_cyc (by omega), show h.length - 1 + l.length - h.length = l.length - 1 by omega, Wd.cyc_lt (by omega)]
    rw [← a1, ← a2, hs, hs, e]
    exact (wat_per (by omega)).symm
  · exact c
theorem Nrm.uniq {h l g m : List Int} (N : Nrm h l) (M : Nrm g m) (hs : ∀ t, wat h l t = wat g m t) : h = g ∧ l = m := by
  have d1 : l.length ∣ m.length := N.dvd (M := g.length) fun t ht => by
    rw [hs, hs]
    exact wat_per ht
  have d2 : m.length ∣ l.length := M.dvd (M := h.length) fun t ht => by
    rw [← hs, ← hs]
    exact wat_per ht
  have e : l.length = m.length := Nat.dvd_antisymm d1 d2
  have e2 : h.length = g.length := Nat.le_antisymm (N.head_le hs e) (M.head_le (fun t => (hs t).symm) e.symm)
  refine ⟨List.ext_getElem e2 fun i h1 h2 => ?_, List.ext_getElem e fun i h1 h2 => ?_⟩
  · have := hs i
    unfold wat at this
    rw [if_pos h1, if_pos h2, List.getD_eq_getElem?_getD, List.getD_eq_getElem?_getD, List.getElem?_eq_getElem h1, List.getElem?_eq_getElem h2] at this
    exact this
  · have := hs (h.length + i)
    rw [wat_cyc (by omega), wat_cyc (by omega), show h.length + i - h.length = i by omega, show h.length + i - g.length = i by omega, Wd.cyc_lt h1, Wd.cyc_lt h2] at this
    have a1 := lw_get h1
    have a2 := lw_get h2
    rw [List.getElem?_eq_getElem h1] at a1
    rw [List.getElem?_eq_getElem h2] at a2
    rw [Option.some.inj a1, Option.some.inj a2, this]
theorem at_last {l : List Int} (n : l ≠ []) : atI (l.map V.int) (-1) = some (.int (lw l (l.length - 1))) := by
  have hp := List.length_pos_iff.mpr n
  have e : l.map V.int = (l.dropLast.map V.int) ++ [.int (l.getLast n)] := by
    rw [← List.map_singleton, ← List.map_append, List.dropLast_concat_getLast]
  rw [e, atI_last]
  have q := last_at n
  rw [List.getLast?_eq_getLast n] at q
  rw [Option.some.inj q]
/-! repetition of a text -/
theorem flat_at {w : List Int} : ∀ (k i : Nat), i < k * w.length → (List.replicate k w).flatten[i]? = w[i % w.length]?
  | 0, i, h => by
    rw [Nat.zero_mul] at h
    exact absurd h (Nat.not_lt_zero i)
  | k + 1, i, h => by
    rw [List.replicate_succ, List.flatten_cons]
    rcases Nat.lt_or_ge i w.length with c | c
    · rw [List.getElem?_append_left c, Nat.mod_eq_of_lt c]
    · rw [List.getElem?_append_right c, flat_at k (i - w.length) (by rw [Nat.succ_mul] at h; omega), ← Nat.mod_eq_sub_mod c]
theorem flat_per {l : List Int} {p k : Nat} (hp : 0 < p) (hpl : p ≤ l.length) (e : l = (List.replicate k (l.take p)).flatten) (hk : k * p = l.length) : ∀ i, i + p < l.length → lw l i = lw l (i + p) := by
  intro i hi
  have el : (l.take p).length = p := by
    rw [List.length_take]
    omega
  have at_ : ∀ j, j < l.length → l[j]? = (l.take p)[j % p]? := fun j hj => by
    have h0 := flat_at (w := l.take p) k j (by rw [el, hk]; exact hj)
    rw [← e, el] at h0
    exact h0
  have h1 := at_ i (by omega)
  have h2 := at_ (i + p) hi
  rw [Nat.add_mod_right, ← h1, lw_get hi, lw_get (show i < l.length by omega)] at h2
  exact (Option.some.inj h2).symm
def spShort : Sp := fun vs H Q _ => ∃ (a b : Addr) (h l : List Int), vs = [.ref a, .ref b] ∧ SeqI H a h ∧ SeqI H b l ∧ l ≠ [] ∧ h.length ≤ 100000 ∧ l.length ≤ 100000 ∧
  ∀ (H' : Hp) (p : Addr) (h' l' : List Int), Same H H' → Las H' p h' l' → Short h l h' l' → Q (.ref p) H'
/-- what suffix hands back -/
def Suf (h l : List Int) (t : Nat) (h' l' : List Int) : Prop := Nrm h' l' ∧ (∀ i, wat h' l' i = wat h l (t + i)) ∧ h'.length ≤ h.length ∧ l'.length ≤ l.length ∧ (∀ x ∈ h', x ∈ h ∨ x ∈ l) ∧ ∀ x ∈ l', x ∈ l
def spSuffix : Sp := fun vs H Q _ => ∃ (p : Addr) (h l : List Int) (t : Nat), vs = [.ref p, .int t] ∧ Las H p h l ∧ l ≠ [] ∧ h.length ≤ 50000 ∧ l.length ≤ 50000 ∧
  ∀ (H' : Hp) (p' : Addr) (h' l' : List Int), Same H H' → Las H' p' h' l' → Suf h l t h' l' → Q (.ref p') H'
def spMake : Sp := fun vs H Q _ => ∃ (a b : Addr) (h l : List Int), vs = [.ref a, .ref b] ∧ H a = some (.lst (h.map V.int)) ∧ H b = some (.lst (l.map V.int)) ∧ l ≠ [] ∧ h.length ≤ 100000 ∧ l.length ≤ 100000 ∧ (∀ x ∈ h, 0 ≤ x) ∧ (∀ x ∈ l, 0 ≤ x) ∧
  ∀ (H' : Hp) (p : Addr) (h' l' : List Int), Same H H' → Las H' p h' l' → Short h l h' l' → Q (.ref p) H'
theorem suf_drop {h l : List Int} {t : Nat} (c : t < h.length) (i : Nat) : wat (h.drop t) l i = wat h l (t + i) := by
  unfold wat
  rw [List.length_drop]
  by_cases d : t + i < h.length
  · rw [if_pos d, if_pos (by omega), List.getD_eq_getElem?_getD, List.getD_eq_getElem?_getD, List.getElem?_drop]
  · rw [if_neg d, if_neg (by omega), show t + i - h.length = i - (h.length - t) by omega]
theorem suf_turn {h l : List Int} {t : Nat} (hn : l ≠ []) (c : h.length ≤ t) (i : Nat) : wat [] (l.drop ((t - h.length) % l.length) ++ l.take ((t - h.length) % l.length)) i = wat h l (t + i) := by
  have hp : 0 < l.length := List.length_pos_iff.mpr hn
  have hc := Nat.mod_lt (t - h.length) hp
  have e : l.drop ((t - h.length) % l.length) ++ l.take ((t - h.length) % l.length) = rot l l.length ((t - h.length) % l.length) := by
    have e3 : (l.drop ((t - h.length) % l.length)).take (l.length - (t - h.length) % l.length) = l.drop ((t - h.length) % l.length) := List.take_of_length_le (by rw [List.length_drop]; exact Nat.le_refl _)
    unfold rot
    rw [e3]
  rw [e, wat_cyc (Nat.zero_le _), wat_cyc (show h.length ≤ t + i by omega), rot_len hc (Nat.le_refl _)]
  show lw _ (_ % _) = lw _ (_ % _)
  rw [rot_at hc (Nat.le_refl _) (Nat.mod_lt _ hp), Nat.mod_add_mod, Nat.add_mod_mod]
  congr 2
  show i - 0 + _ = _
  omega
def spInts : Sp := fun vs H Q _ => ∃ (a : Addr) (xs : List Int) (lo hi : Int), vs = [.ref a, .int lo, .int hi] ∧ TupI H a xs ∧ (∀ x ∈ xs, lo ≤ x ∧ x < hi) ∧ Q (.bl true) H
def spNormal : Sp := fun vs H Q _ => ∃ (p : Addr) (h l : List Int), vs = [.ref p] ∧ Las H p h l ∧ Nrm h l ∧ l.length ≤ 1000 ∧ ∀ H', Same H H' → Q (.bl true) H'
def spIsLasso : Sp := fun vs H Q _ => ∃ (p : Addr) (h l : List Int) (n : Int), vs = [.ref p, .int n] ∧ Las H p h l ∧ Nrm h l ∧ l.length ≤ 1000 ∧ (∀ x ∈ h, 0 ≤ x ∧ x < n) ∧ (∀ x ∈ l, 0 ≤ x ∧ x < n) ∧ ∀ H', Same H H' → Q (.bl true) H'
/-! the same word in other forms -/
theorem wat_mem {h l : List Int} (n : l ≠ []) (t : Nat) : wat h l t ∈ h ∨ wat h l t ∈ l := by
  have hl : 0 < l.length := List.length_pos_iff.mpr n
  unfold wat
  by_cases c : t < h.length
  · rw [if_pos c, List.getD_eq_getElem?_getD, List.getElem?_eq_getElem c]
    exact .inl (List.getElem_mem c)
  · have c2 := Nat.mod_lt (t - h.length) hl
    rw [if_neg c, List.getD_eq_getElem?_getD, List.getElem?_eq_getElem c2]
    exact .inr (List.getElem_mem c2)
theorem range_getD {f : Nat → Int} {n t : Nat} (c : t < n) : ((List.range n).map f).getD t 0 = f t := by
  rw [List.getD_eq_getElem?_getD, List.getElem?_map, List.getElem?_range c]
  rfl
theorem wat_form {h l : List Int} {m k : Nat} (n : l ≠ []) (hk : 0 < k) (t : Nat) :
    wat ((List.range (h.length + m)).map (wat h l)) ((List.range (k * l.length)).map fun t => wat h l (h.length + m + t)) t = wat h l t := by
  have hl : 0 < l.length := List.length_pos_iff.mpr n
  have hkl : 0 < k * l.length := Nat.mul_pos hk hl
  rw [show wat ((List.range (h.length + m)).map (wat h l)) ((List.range (k * l.length)).map fun t => wat h l (h.length + m + t)) t
      = if t < ((List.range (h.length + m)).map (wat h l)).length then ((List.range (h.length + m)).map (wat h l)).getD t 0 else ((List.range (k * l.length)).map fun t => wat h l (h.length + m + t)).getD ((t - ((List.range (h.length + m)).map (wat h l)).length) % ((List.range (k * l.length)).map fun t => wat h l (h.length + m + t)).length) 0 from rfl]
  rw [List.length_map, List.length_range, List.length_map, List.length_range]
  by_cases c : t < h.length + m
  · rw [if_pos c, range_getD c]
  · rw [if_neg c, range_getD (Nat.mod_lt _ hkl), wat_cyc (by omega), wat_cyc (by omega)]
    show lw l (_ % _) = lw l (_ % _)
    congr 1
    have e1 : h.length + m + (t - (h.length + m)) % (k * l.length) - h.length = m + (t - (h.length + m)) % (k * l.length) := by omega
    have e2 : t - h.length = m + (t - (h.length + m)) := by omega
    rw [e1, e2, ← Nat.add_mod_mod, Nat.mod_mod_of_dvd _ ⟨k, Nat.mul_comm k l.length⟩, Nat.add_mod_mod]
theorem wat_front (f h l : List Int) (i : Nat) : wat (f ++ h) l (f.length + i) = wat h l i := by
  unfold wat
  rw [List.length_append]
  by_cases c : i < h.length
  · rw [if_pos c, if_pos (by omega), List.getD_eq_getElem?_getD, List.getD_eq_getElem?_getD, List.getElem?_append_right (by omega), Nat.add_sub_cancel_left]
  · rw [if_neg c, if_neg (by omega), show f.length + i - (f.length + h.length) = i - h.length by omega]
def dLas (h l : List Int) : PyData := .tuple [.tuple (h.map PyData.int), .tuple (l.map PyData.int)]
theorem dp_las {K : PySem.W.Frag} {H : Hp} {p : Addr} {h l : List Int} (x : Las H p h l) : Dp K H (.ref p) (dLas h l) := by
  obtain ⟨a, b, e1, e2, e3⟩ := x
  exact .tup (.of e1) (.cons (dp_tup e2) (.cons (dp_tup e3) .nil))
theorem shaped_las (h l : List Int) : SeqAt.shaped (dLas h l) = true := by
  unfold SeqAt.shaped dLas
  rw [PyData.canLay0, PyData.canLayAll0, PyData.canLayAll0, PyData.canLayAll0, PyData.canLay0, layAll, PyData.canLay0, layAll, PyData.depth, PyData.depthAll, PyData.depthAll, PyData.depthAll, PyData.depth, depAll, PyData.depth, depAll]
  rfl
theorem eqv_las (h l : List Int) : PyData.eqv (dLas h l) (dLas h l) = true := by
  unfold dLas
  rw [PyData.eqv, PyData.eqvAll, PyData.eqvAll, PyData.eqvAll, eqv_tup, eqv_tup]
  simp
def spCell (K : PySem.W.Frag) : Sp := fun vs H Q _ => ∃ (a : Addr) (ns : List Int) (k : Nat), vs = [.ref a, .int k] ∧ SqL K H a (ns.map V.int) ∧ ∀ v : Int, Q (.int v) H
def spNegX (C : Addr) : Sp := fun vs H _ E => ∃ (p : Addr) (t : Int), vs = [.ref p, .int t] ∧ t < 0 ∧ E (.ref C) none H
def spRefuses : Sp := fun vs H Q _ => ∃ (p : Addr) (t : Int), vs = [.ref p, .int t] ∧ t < 0 ∧ Q (.bl true) H
def spSame : Sp := fun vs H Q _ => ∃ (p q : Addr) (h l h2 l2 : List Int), vs = [.ref p, .ref q] ∧ Pr H p h l ∧ Pr H q h2 l2 ∧ l ≠ [] ∧ l2 ≠ [] ∧ dfn h l h2 l2 ≤ 1000000 ∧ (∀ t, wat h l t = wat h2 l2 t) ∧ Q (.bl true) H
def spMakeX (cE cL : Addr) : Sp := fun vs H Q E => ∃ (a b : Addr) (h l : List Int), vs = [.ref a, .ref b] ∧ H a = some (.lst (h.map V.int)) ∧ H b = some (.lst (l.map V.int)) ∧ h.length ≤ 100000 ∧ l.length ≤ 100000 ∧
  (l = [] → E (.ref cE) none H) ∧ (l ≠ [] → (∃ x, (x ∈ h ∨ x ∈ l) ∧ x < 0) → E (.ref cL) none H) ∧
  (l ≠ [] → (∀ x, x ∈ h ∨ x ∈ l → 0 ≤ x) → ∀ (H' : Hp) (p : Addr) (h' l' : List Int), Same H H' → Las H' p h' l' → Short h l h' l' → Q (.ref p) H')
def spOut : Sp := fun vs H Q _ => ∃ (a b : Addr) (h l : List Int), vs = [.ref a, .ref b] ∧ H a = some (.lst (h.map V.int)) ∧ H b = some (.lst (l.map V.int)) ∧ h.length ≤ 100000 ∧ l.length ≤ 100000 ∧
  (l = [] → ∀ (H' : Hp) (p : Addr), Same H H' → H' p = some (.tup [.str "empty", .bl true]) → Q (.ref p) H') ∧
  (l ≠ [] → (∃ x, (x ∈ h ∨ x ∈ l) ∧ x < 0) → ∀ (H' : Hp) (p : Addr), Same H H' → H' p = some (.tup [.str "letter", .bl true]) → Q (.ref p) H') ∧
  (l ≠ [] → (∀ x, x ∈ h ∨ x ∈ l → 0 ≤ x) → ∀ (H' : Hp) (p q : Addr) (h' l' : List Int), Same H H' → H' p = some (.tup [.str "lasso", .ref q]) → Las H' q h' l' → Short h l h' l' → Q (.ref p) H')
theorem neg_cases (h l : List Int) : (∃ x, (x ∈ h ∨ x ∈ l) ∧ x < 0) ∨ ∀ x, x ∈ h ∨ x ∈ l → 0 ≤ x := by
  by_cases c : ∃ x, (x ∈ h ∨ x ∈ l) ∧ x < 0
  · exact .inl c
  · exact .inr fun x hx => by
      rcases Int.lt_or_le x 0 with z | z
      · exact absurd ⟨x, hx, z⟩ c
      · exact z
def spIsInt : Sp := fun vs H Q _ => ∃ (i : Int), vs = [.int i] ∧ Q (.bl true) H
end Bx
/-! ### own errors, two levels below ValueError -/
namespace Bx
open PySem PySem.Spec PyProof.Rows L2
abbrev veB : List Value := [.type "ValueError", .type "Exception", .type "BaseException", .type "object"]
structure ErrC (K : PySem.W.Frag) (mg : Str → Option Value) (x : Str) (C : Addr) : Prop where
  g : mg x = some (.ref C)
  ex : PySem.W.excIn K C veB "ValueError.__new__" = true
  kp : PySem.W.keepIn K (.ref C) = true
  ty : PySem.W.typeIn K (.ref C) = some (.type "type")
  sf : PySem.W.subIn K (.ref C) (.ref C) = some true
  ec : ExcC K C
theorem ErrC.exm {K : PySem.W.Frag} {mg : Str → Option Value} {x : Str} {C : Addr} {cls : Value} {b : Bool} (e : ErrC K mg x C) (h : PySem.W.subIn K cls (.ref C) = some b) : PySem.W.exmOne K cls (.ref C) = some b := PySem.W.exm_ref e.ec.hs e.ec.hd e.ty h
theorem ErrC.me {K : PySem.W.Frag} {mg : Str → Option Value} {x : Str} {C : Addr} (e : ErrC K mg x C) : PySem.W.exmOne K (.ref C) (.ref C) = some true := e.exm e.sf
/-- raise X('..') -/
theorem ErrC.made {X : Cx} {C : Addr} {x m : Str} {j : Nat} {p p2 pos : Pos} (e : ErrC X.K X.mg x C) (hg : Gl X x) (hd : (x == ("__debug__" : Str)) = false := by decide) : PMk X (.Call (.Name x p) [.Constant (.str m) j p2] [] pos) (fun _ H Q => Q (.ref C) none H) :=
  pmk_own PySem.F.excBase_ValueError e.ex e.g e.kp (raises_own e.ec.hs e.ty) hg hd
/-- isinstance(e, c), e the exception that the suite holds -/
def rIsEx (K : PySem.W.Frag) (a : Addr) (cls : Value) (d : Option Addr) : List V → Hp → VK → Prop := fun xs H Q => ∃ D : Addr, cls = .ref D ∧ d = none ∧ ExcC K D ∧ rIsE K D a xs H Q
theorem call_isEx {X : Cx} {K : PySem.W.Frag} {a : Addr} {cls : Value} {d : Option Addr} {oe : Obj} {pn : List (Addr × Obj)} (h : X.K = K) (hz : Zc cls d oe) (hf : ∃ vs, oe.data = .fields vs) : CallR (X.suite a ((a, oe) :: pn)) (.builtin "isinstance") (rIsEx K a cls d) := by
  subst h
  intro pins s σ H xs us Q I r hw
  obtain ⟨D, rfl, rfl, C, hw⟩ := hw
  exact call_isE C hz hf pins s σ H xs us Q I r hw
/-- a def that may raise, by its name -/
structure CalX (P : Program) (w : World) (K : PySem.W.Frag) (mg : Str → Option Value) (base : Heap) (k : Nat) (x : Str) (sp : Sp) : Prop where
  ex : ∃ (f : Addr) (fd : FuncData) (ps : List Str), FnOk P w K mg base (L2.CX P w) k f fd ps sp ∧ mg x = some (.ref f) ∧ PySem.W.keepIn K (.ref f) = true ∧ Binds K fd ps []
theorem pe_cx {X : Cx} {k j : Nat} {x : Str} {sp : Sp} {W : WX} {p pos : Pos} {e : Expr} {es : List Expr} {t : TA} (c : CalX X.prog X.w X.K X.mg X.base k x sp) (hr : Room j X.A) (hk : k ≤ j) (tk : Takes X W) (hg : Gl X x) (ha : PA X (e :: es) t)
    (hdb : (x == ("__debug__" : Str)) = false := by decide) (he : starEach (e :: es) X.env = (false, eval e X.env) :: starEach es X.env := by rfl) (hpl : (backTo pos (starEach es X.env)).any (·.1) = false := by rfl) :
    PE X (.Call (.Name x p) (e :: es) [] pos) (tCallS sp (WE W) t) := by
  obtain ⟨f, fd, ps, F, hm, kp, b⟩ := c.ex
  exact pe_callS F (hr.mono hk) hg hm kp b (fun σ => passAt tk σ) ha hdb he hpl
end Bx
/-! ### several clauses, each with its name: own rule -/
namespace Bx
open PySem PySem.Spec PyProof.Rows L2
/-- what the clauses wish, one after the other: (class, the name's slot, the suite's reading) -/
def wAll (K : PySem.W.Frag) (Wo : WX) (D : Ends) : List (Value × Nat × (Addr → Value → Option Addr → TS)) → WX
  | [] => Wo
  | (c, i, ts) :: r => fun cls d σ H => ∃ b, PySem.W.exmOne K cls c = some b ∧
    (b = true → ∀ a, H a = none → ts a cls d { nx := fun σ' H' => D.nx (σ'.set i none) H', rt := D.rt, bk := fun σ' H' => D.bk (σ'.set i none) H', ct := fun σ' H' => D.ct (σ'.set i none) H' } (σ.set i (some (.ref a))) H) ∧
    (b = false → wAll K Wo D r cls d σ H)
inductive Clauses (Y : Cx) : List ExceptHandler → List (Value × Nat × (Addr → Value → Option Addr → TS)) → Prop
  | nil : Clauses Y [] []
  | cons {x n : Str} {c : Value} {i : Nat} {ts : Addr → Value → Option Addr → TS} {b0 : Stmt} {suite : List Stmt} {p p' : Pos} {cs : List ExceptHandler} {l : List (Value × Nat × (Addr → Value → Option Addr → TS))}
      (hc : Names Y x c) (hi : Y.N[i]? = some n) (hl : Y.env.kindOf n = some .local)
      (su : ∀ (a : Addr) (oe : Obj) (cls : Value) (d : Option Addr) (pn : List (Addr × Obj)), Zc cls d oe → (∃ vs, oe.data = .fields vs) → PSs (Y.suite a ((a, oe) :: pn)) (b0 :: suite) (ts a cls d)) (r : Clauses Y cs l) :
      Clauses Y (.ExceptHandler (some (.Name x p)) (some n) (b0 :: suite) p' :: cs) ((c, i, ts) :: l)
theorem ps_try_all {Y : Cx} {body : List Stmt} {c0 : ExceptHandler} {cs : List ExceptHandler} {l : List (Value × Nat × (Addr → Value → Option Addr → TS))} {pos : Pos} {tb : WX → TS} {Wo : WX}
    (ks : Y.stack = Y.env :: Y.outer) (kf : Y.env.frame = some Y.env.locals) (kN : Y.N.Nodup) (tk : Takes Y Wo)
    (kb : ∀ (W : WX) (pn : List (Addr × Obj)) (xe : Value → Shared → Prop), Takes (Y.tr pn xe) W → PassesOwn (model Y.prog Y.w) Y.A Y.env xe → PSs (Y.tr pn xe) body (tb W))
    (kh : Clauses Y (c0 :: cs) l) : PS Y (.Try body (c0 :: cs) [] [] pos) (fun D σ H => tb (wAll Y.K Wo D l) D σ H) := by
  refine ⟨fun pins u σ H D I hw => ?_⟩
  have okY := I.ok
  have fr := okY.frames
  rw [ks] at fr
  refine wpAny_Try_except ?_
  refine wpAny_mono ((kb (wAll Y.K Wo D l) (Y.pn ++ pins) (fun e u1 => wpAny (model Y.prog Y.w) Y.A (noteFrame e Y.env) (fun _ u2 => wpAny (model Y.prog Y.w) Y.A (setFlight e none) (fun _ u3 =>
    wpAny (model Y.prog Y.w) Y.A (handleBy e Y.env (c0 :: cs)) (SP Y pins D) Y.xe u3) Y.xe u2) Y.xe u1) (fun v g xx => ?_) PassesOwn.looking).run [] u σ H D (I.toTry _) hw) (fun f u1 q => ?_) (fun e u1 q => q)
  · obtain ⟨a, B, sI, pins1, σ1, H1, cls, d, rfl, Jt, nb, up, sk, na, os, ag, w⟩ := xx
    have J : Inv Y pins σ1 H1 sI := Jt.ofTry okY
    have sk1 : Sky B (Y.env :: Y.outer) a (Zc cls d) Y.env.locals g.heap := by rw [← ks]; exact sk
    show wpAny (model Y.prog Y.w) Y.A (noteFrame (.ref a) Y.env) _ _ _
    refine Sky.land Zc.steady fr kf sk1 fun g3 f3 u3 => ?_
    have I3 : Inv Y pins σ1 H1 { g with heap := g3 } := J.landed nb f3.1 (up.trans u3) os ag
    obtain ⟨o3, w3, at3, z3, dt3⟩ := f3.there
    have apart : ∀ {t : Heap} {o : Obj} {vs : Array Value}, t.FunFrames B (Y.env :: Y.outer) → t.get? a = some o → o.data = .fields vs → a ∉ frs (Y.env :: Y.outer) := fun {t o vs} ff e dd hm => by
      obtain ⟨_, o2, e2, q2⟩ := ff.mem hm
      rw [e] at e2
      cases e2
      exact q2 _ dd
    have n0 := apart f3.2.2.1 at3 dt3
    have nL : a ≠ Y.env.locals := fun z => n0 (List.mem_filterMap.mpr ⟨Y.env, List.mem_cons_self, by rw [kf, z]⟩)
    have nF : a ∉ Y.fs := fun hm => by
      obtain ⟨e, he, q⟩ := List.mem_filterMap.mp hm
      exact n0 (List.mem_filterMap.mpr ⟨e, List.mem_cons_of_mem _ he, q⟩)
    have T3 := I3.suite at3 dt3 na nL nF
    have all : ∀ {cs2 : List ExceptHandler} {l2 : List (Value × Nat × (Addr → Value → Option Addr → TS))}, Clauses Y cs2 l2 → wAll Y.K Wo D l2 cls d σ1 H1 →
        wpAny (model Y.prog Y.w) Y.A (handleBy (.ref a) Y.env cs2) (SP Y pins D) Y.xe { g with heap := g3 } := by
      intro cs2 l2 hk
      induction hk with
      | nil =>
        intro w
        refine wpAny_handleBy_nil ?_
        obtain ⟨_, _, _, oe, vs, T, oT, t2, he, hz, hd, h1, _⟩ := id f3
        unfold PySem.passOn
        refine wpAny_bind (wpAny_field he hd h1 ?_)
        rw [if_neg (show ¬ ((Value.ref T == Value.none) = true) from by simp)]
        have away : wpAny (model Y.prog Y.w) Y.A (setFlight (.ref a) Y.env.frame) (fun _ u4 => wpAny (model Y.prog Y.w) Y.A (throw (.ref a) : Sem Flow) (SP Y pins D) Y.xe u4) Y.xe { g with heap := g3 } := by
          rw [kf]
          refine HandSPX.setFlight_upZ f3 fun g4 q4 u4 => wpAny_throw (tk _ _ ?_)
          exact ⟨a, B, sI, pins, σ1, H1, cls, d, rfl, J, nb, (up.trans u3).trans u4, .inr (.inr (by rw [ks]; exact q4)), na, os, ag, w⟩
        first
          | exact wpAny_bind (wpAny_pure (wpAny_bind away))
          | exact wpAny_bind away
      | @cons x n c i ts b0 suite p p' cs3 l3 hc hi hl su r ih =>
        intro w
        obtain ⟨b, e1, yes, no⟩ := w
        refine wpAny_handleBy_cons (codeAny_handlers_test ?_) (by intro q; cases q)
        have LT : PySem.W.Looks (model Y.prog Y.w) g3 (typeOf (.ref a)) cls := fun A Q E s k q => wpAny_typeOf_ref (k _ _ at3) (by rw [z3.1]; exact q)
        have LM := PySem.W.exm_one (M := model Y.prog Y.w) (I3.kIn) LT e1
        have test : ∀ {Q : Value → Shared → Prop} {E : Value → Shared → Prop}, Q c { g with heap := g3 } → wpAny (model Y.prog Y.w) (Y.A.mark (some (.ref a))) (eval (.Name x p) Y.env) Q E { g with heap := g3 } := fun {Q E} q => by
          obtain ⟨hg, hdb, hm | ⟨hm, hv, hnn⟩⟩ := hc
          · exact ld_glob (X := Y.suite a ((a, o3) :: (Y.pn ++ pins))) T3 hg hm q hdb
          · exact ld_blt (X := Y.suite a ((a, o3) :: (Y.pn ++ pins))) T3 hg hm hv q hnn hdb
        refine test (LM.here ?_)
        cases b with
        | true =>
          refine codeAny_handlers_suite_as ?_
          refine HandSPX.lands_againZ f3 fun g4 f4 u4 => ?_
          have I4 : Inv Y pins σ1 H1 { g with heap := g4 } := J.landed nb f4.1 ((up.trans u3).trans u4) os ag
          obtain ⟨o4, w4, at4, z4, dt4⟩ := f4.there
          have T4 := I4.suite at4 dt4 na nL nF
          refine store_ok (X := Y.suite a ((a, o4) :: (Y.pn ++ pins))) (v := .ref a) T4 kN hi (.inl hl) rfl (fun u5 T5 => ?_) (.inr hl)
          refine wpAny_mono ((su a o4 cls d (Y.pn ++ pins) z4 ⟨_, dt4⟩).run [] u5 _ H1 _ T5 (yes rfl a na)) (fun f u6 q => ?_) (fun _ _ z => False.elim z)
          have fin : ∀ {σ6 : L2.St} {H6 : Hp} {Q : Shared → Prop}, Inv (Y.suite a ((a, o4) :: (Y.pn ++ pins))) [] σ6 H6 u6 → (∀ u7, Inv Y pins (σ6.set i none) H6 u7 → Q u7) →
              wpAny (model Y.prog Y.w) Y.A (do bindName Y.env n .none; unbindBehindTheSuite Y.env n p') (fun _ u7 => Q u7) Y.xe u6 := fun {σ6 H6 Q} T6 hq => gone_ok (T6.unsuite okY) kN hi hl hq
          cases f with
          | next =>
            obtain ⟨_, _, T6, q6⟩ := q
            exact fin T6 fun _ I7 => ⟨_, _, I7, q6⟩
          | brk =>
            obtain ⟨_, _, T6, q6⟩ := q
            exact fin T6 fun _ I7 => ⟨_, _, I7, q6⟩
          | cont =>
            obtain ⟨_, _, T6, q6⟩ := q
            exact fin T6 fun _ I7 => ⟨_, _, I7, q6⟩
          | ret v =>
            obtain ⟨_, _, _, T6, r6, q6⟩ := q
            exact fin T6 fun _ I7 => ⟨_, _, _, I7, r6, q6⟩
        | false =>
          show wpAny _ Y.A (handleBy (.ref a) Y.env cs3) _ _ _
          exact ih (no rfl)
    exact all kh w
  · cases f with
    | next =>
      obtain ⟨_, _, J1, q1⟩ := q
      exact wpAny_execs_nil ⟨_, _, J1.ofTry okY, q1⟩
    | brk =>
      obtain ⟨_, _, J1, q1⟩ := q
      exact ⟨_, _, J1.ofTry okY, q1⟩
    | cont =>
      obtain ⟨_, _, J1, q1⟩ := q
      exact ⟨_, _, J1.ofTry okY, q1⟩
    | ret v =>
      obtain ⟨_, _, _, J1, r1, q1⟩ := q
      exact ⟨_, _, _, J1.ofTry okY, r1, q1⟩
end Bx
/-! ### max of a tuple of ints, lcm: own rules -/
namespace MaxT
open PySem PySem.W PyProof.Rows
section
variable {prog : Program} {w : World} {A : Around} {E : Value → Shared → Prop} {s : Shared}
theorem walkT {l : Addr} {xs : Array (Int × Tok)} {Q : Value → Shared → Prop} (hh : A.handled = none) (ht : s.heap.IsTuple l (intItems xs)) (hne : 0 < xs.size)
    (h : ∀ v g tk, (intItems xs)[argBest (fun i j => decide (numAt xs i > numAt xs j)) (xs.size - 1)]? = some v → (∀ b o, s.heap.get? b = some o → g.get? b = some o) → Q v { s with heap := g, toks := tk }) :
    wpAny (model prog w) A (call (.builtin "max") [.ref l]) Q E s := by
  have ll : l < s.heap.objs.size := by
    obtain ⟨_, e, _⟩ := ht
    exact Heap.lt_size e
  refine call_max_walk (wpAny_pyIter_tuple ht ?_)
  refine ⟨_, _, _, _, _, _, _, rfl, Walks.tuple (A := A.in1) hh _ l (Nat.ne_of_lt ll) (intItems xs), ⟨⟨_, Heap.get?_push_size _ rfl, rfl, rfl⟩, ht.push _⟩, fun c hc => ?_, by simpa [intItems] using hne, CmpOf.ints_gt (numAt xs) (fun _ _ => intItems_at), fun v g tk hP hk => ?_⟩
  · show c < (s.heap.push _).objs.size
    rw [Heap.size_push]
    rcases List.mem_cons.mp hc with rfl | hc
    · exact Nat.lt_succ_self _
    · rcases List.mem_cons.mp hc with rfl | hc
      · exact Nat.lt_succ_of_lt ll
      · cases hc
  · refine h v g tk (by simpa [intItems] using hP) fun b o e => hk b o (fun hm => ?_) (Heap.get?_push_of_some _ e)
    have e1 : b = s.heap.objs.size := List.mem_singleton.mp hm
    rw [e1] at e
    exact absurd (Heap.lt_size e) (Nat.lt_irrefl _)
theorem rawT {l : Addr} {its : List Value} {ns : List Int} {Q : Value → Shared → Prop} (hh : A.handled = none) (hl : IsTup s.heap l its.toArray) (hi : IntsAre its ns) (hne : ns ≠ [])
    (h : ∀ (g : Heap) (tk : Nat) (m : Int) (t' : Tok), (∀ b o, s.heap.get? b = some o → g.get? b = some o) → m ∈ ns → (∀ y ∈ ns, y ≤ m) → Q (.int m t') { s with heap := g, toks := tk }) :
    wpAny (model prog w) A (call (.builtin "max") [.ref l]) Q E s := by
  obtain ⟨xs, e⟩ := hi.allInts.items
  have hn : numsOf (intItems xs).toList = ns := by rw [← e]; exact hi.numsOf
  rw [PySem.nums_intItems] at hn
  subst hn
  rw [e] at hl
  have c : 0 < xs.size := by
    rcases Nat.eq_zero_or_pos xs.size with z | z
    · refine absurd ?_ hne
      have : xs = #[] := Array.eq_empty_of_size_eq_zero z
      rw [this]
      rfl
    · exact z
  refine walkT hh hl c fun v g tk p1 keep => ?_
  obtain ⟨u, rfl⟩ := intItems_at p1
  obtain ⟨a1, a2⟩ := argBest_gt (numAt xs) (xs.size - 1)
  refine h g tk _ u keep ?_ fun y hy => ?_
  · rw [PySem.numAt_eq]
    refine PySem.getD_mem ?_
    rw [List.length_map, Array.length_toList]
    exact Nat.lt_of_le_of_lt a1 (by omega)
  · obtain ⟨j, hj, rfl⟩ := PySem.mem_getD hy
    rw [List.length_map, Array.length_toList] at hj
    rw [← PySem.numAt_eq]
    exact a2 j (by omega)
end
end MaxT
namespace Bx
open PySem PySem.Spec PyProof.Rows L2
def rMaxT (K : PySem.W.Frag) : List V → Hp → VK → Prop := fun xs H Q => ∃ (a : Addr) (ns : List Int), xs = [.ref a] ∧ SqT K H a (ns.map V.int) ∧ ns ≠ [] ∧ ∀ m, m ∈ ns → (∀ y ∈ ns, y ≤ m) → Q (.int m) H
theorem call_maxT {X : Cx} {K : PySem.W.Frag} (h : X.K = K) (hc : X.calm = true) : CallR X (.builtin "max") (rMaxT K) := by
  subst h
  intro pins s σ H xs us Q I r hw
  obtain ⟨a, ns, rfl, hs, hne, q⟩ := hw
  obtain ⟨its, rv, ht, _⟩ := I.tuple hs
  rw [Vals.ref1 r]
  exact MaxT.rawT (I.ok.hd hc) ht rv.ints hne fun g tk m t' hk h1 h2 => ⟨.int m, H, I.kept hk, ⟨_, rfl⟩, q m h1 h2⟩
theorem call_maxK {X : Cx} {K : PySem.W.Frag} (h : X.K = K) (hc : X.calm = true) : CallR X (.builtin "max") (rMax K) := by
  subst h
  exact cr_max hc
def spCheckX (cL : Addr) : Sp := fun vs H Q E => ∃ (p : Addr) (h l : List Int) (n : Int), vs = [.ref p, .int n] ∧ Las H p h l ∧ l ≠ [] ∧ h.length ≤ 1000 ∧ l.length ≤ 1000 ∧
  ((∃ x, (x ∈ h ∨ x ∈ l) ∧ n ≤ x) → ∀ H', Same H H' → E (.ref cL) none H') ∧ ((∀ x, x ∈ h ∨ x ∈ l → x < n) → ∀ H', Same H H' → Q .non H')
end Bx
/-! ### lists of lists, instances made in a try: own rules -/
namespace Bx
open PySem PySem.Spec PyProof.Rows L2
section
variable {X : Cx}
theorem pi_or {tg iter : Expr} {w1 w2 : TI} (h1 : PI X tg iter w1) (h2 : PI X tg iter w2) : PI X tg iter (fun σ H R => w1 σ H R ∨ w2 σ H R) := ⟨fun pins s σ H R I h => by
  rcases h with h | h
  · exact h1.run pins s σ H R I h
  · exact h2.run pins s σ H R I h⟩
theorem passF {P : Program} {w : World} : Passes (L2.CX P w) X (fun _ _ _ => False) := fun _ _ _ _ _ _ _ h => by
  obtain ⟨_, _, _, _, _, _, _, _, _, _, _, _, z⟩ := h
  exact z.elim
/-- a new instance of an own class whose __init__ may raise -/
structure MakX (P : Program) (w : World) (K : PySem.W.Frag) (mg : Str → Option Value) (base : Heap) (k : Nat) (x : Str) (C : Addr) (sp : Sp) : Prop where
  ex : ∃ (f : Addr) (fd : FuncData) (ps : List Str), Mk K C f ∧ FnOk P w K mg base (L2.CX P w) k f fd ps sp ∧ mg x = some (.ref C) ∧ Binds K fd ps []
def tMakX (C : Addr) (sp : Sp) (E : L2.St → XK) (t : TA) : TE := fun σ H Q => t σ H fun vs H1 => ∀ x dx, H1 x = none → H1 dx = none → dx ≠ x → sp (.ref x :: vs) (upd (upd H1 dx (.own x)) x (.ins C dx [])) (fun v H2 => v = .non ∧ Q (.ref x) H2) (E σ)
theorem made_at {k : Nat} {f C : Addr} {fd : FuncData} {ps : List Str} {sp : Sp} {E : XK} {pins : List (Addr × Obj)} {σ : L2.St} {H : Hp} {u : Shared} {Q : VK} {us : List Value} {vs : List V} (M : Mk X.K C f) (F : FnOk X.prog X.w X.K X.mg X.base (L2.CX X.prog X.w) k f fd ps sp) (hr : Room (k + 1) X.A) (hb : Binds X.K fd ps [])
    (hx : PassesAt (L2.CX X.prog X.w) X σ E) (I : Inv X pins σ H u) (r : Vals vs us)
    (h : ∀ x dx, H x = none → H dx = none → dx ≠ x → sp (.ref x :: vs) (upd (upd H dx (.own x)) x (.ins C dx [])) (fun v H2 => v = .non ∧ Q (.ref x) H2) E) :
    wpAny (model X.prog X.w) X.A (call (.ref C) us) (EP X pins σ Q) X.xe u := by
  have q0 := h (u.heap.objs.size + 1) u.heap.objs.size (I.hok.fresh (Nat.le_succ _)) (I.hok.fresh (Nat.le_refl _)) (Nat.ne_of_lt (Nat.lt_succ_self _))
  have J := Inv.made (C := C) I
  have r2 : Vals (V.ref (u.heap.objs.size + 1) :: vs) (Value.ref (u.heap.objs.size + 1) :: us) := .cons rfl r
  have hl : (Value.ref (u.heap.objs.size + 1) :: us ++ []).length = ps.length := by
    have e := r2.length
    rw [F.len _ _ _ _ q0] at e
    rw [List.append_nil]
    exact e.symm
  refine wpAny_call (make_map (f := f) I.kIn M.makes M.init (beq_iff_eq.mp M.fn) (codeAny_mono (F.run _ X.stack _ _ ⟨Value.ref (u.heap.objs.size + 1) :: us, []⟩ (Value.ref (u.heap.objs.size + 1) :: us) _ _ E (hr.make C us [])
    (J.env0.make C us []) (by have q := hb _ (Value.ref (u.heap.objs.size + 1) :: us) J.kIn hl; rw [List.append_nil] at q; exact q) r2 q0) fun r u' hq => ?_))
  cases r with
  | error e => exact hx pins _ _ e u' J hq
  | ok fl =>
    cases fl with
    | ret v =>
      obtain ⟨y, G, J3, ry, ey, qy⟩ := J.after hq
      subst ey
      exact ⟨ry, ⟨V.ref (u.heap.objs.size + 1), G, J3, rfl, qy⟩⟩
    | next => exact False.elim hq
    | brk => exact False.elim hq
    | cont => exact False.elim hq
theorem pe_makeX {k j : Nat} {C : Addr} {x : Str} {sp : Sp} {W : WX} {p pos : Pos} {e : Expr} {es : List Expr} {t : TA} (c : MakX X.prog X.w X.K X.mg X.base k x C sp) (hr : Room j X.A) (hk : k + 1 ≤ j) (tk : Takes X W) (hg : Gl X x) (ha : PA X (e :: es) t)
    (hdb : (x == ("__debug__" : Str)) = false := by decide) (he : starEach (e :: es) X.env = (false, eval e X.env) :: starEach es X.env := by rfl) (hpl : (backTo pos (starEach es X.env)).any (·.1) = false := by rfl) :
    PE X (.Call (.Name x p) (e :: es) [] pos) (tMakX C sp (WE W) t) := by
  obtain ⟨f, fd, ps, M, F, hm, b⟩ := c.ex
  refine ⟨fun pins u σ H Q I hw => ?_⟩
  refine wpAny_Call_Name_kw (ld_glob I hg hm ?_ hdb)
  refine PySem.W.callWith_K (h₀ := X.base) I.ok.mod.kin M.kp (thn (ha.run pos pins u σ H _ I hw) fun us u1 ⟨vs, H1, I1, rv, qv⟩ => ⟨I1.kIn, ?_⟩) he hpl
  exact made_at M F (hr.mono hk) b (passAt tk σ) I1 rv qv
theorem pe_makeN {k j : Nat} {C : Addr} {x : Str} {sp : Sp} {p pos : Pos} {e : Expr} {es : List Expr} {t : TA} (c : MakX X.prog X.w X.K X.mg X.base k x C sp) (hr : Room j X.A) (hk : k + 1 ≤ j) (hg : Gl X x) (ha : PA X (e :: es) t)
    (hdb : (x == ("__debug__" : Str)) = false := by decide) (he : starEach (e :: es) X.env = (false, eval e X.env) :: starEach es X.env := by rfl) (hpl : (backTo pos (starEach es X.env)).any (·.1) = false := by rfl) :
    PE X (.Call (.Name x p) (e :: es) [] pos) (tMakX C sp (fun _ => fun _ _ _ => False) t) := by
  obtain ⟨f, fd, ps, M, F, hm, b⟩ := c.ex
  refine ⟨fun pins u σ H Q I hw => ?_⟩
  refine wpAny_Call_Name_kw (ld_glob I hg hm ?_ hdb)
  refine PySem.W.callWith_K (h₀ := X.base) I.ok.mod.kin M.kp (thn (ha.run pos pins u σ H _ I hw) fun us u1 ⟨vs, H1, I1, rv, qv⟩ => ⟨I1.kIn, ?_⟩) he hpl
  exact made_at M F (hr.mono hk) b (fun pins G v e v' J q => passF pins σ G v e v' J q) I1 rv qv
end
/-! rows of ints -/
def RowsA (mk : List V → HO) (H : Hp) : List Addr → List (List Int) → Prop
  | [], [] => True
  | a :: as, r :: rs => H a = some (mk (r.map V.int)) ∧ RowsA mk H as rs
  | _, _ => False
def RowsQ (H : Hp) : List Addr → List (List Int) → Prop
  | [], [] => True
  | a :: as, r :: rs => SeqI H a r ∧ RowsQ H as rs
  | _, _ => False
theorem RowsA.keep {mk : List V → HO} {H H' : Hp} : ∀ {as : List Addr} {rs : List (List Int)}, (∀ b o, b ∈ as → H b = some o → H' b = some o) → RowsA mk H as rs → RowsA mk H' as rs
  | [], [], _, _ => True.intro
  | a :: as, r :: rs, k, h => ⟨k a _ List.mem_cons_self h.1, RowsA.keep (fun b o hb => k b o (List.mem_cons_of_mem _ hb)) h.2⟩
  | [], _ :: _, _, h => h.elim
  | _ :: _, [], _, h => h.elim
theorem RowsA.same {mk : List V → HO} {H H' : Hp} {as : List Addr} {rs : List (List Int)} (k : Same H H') (h : RowsA mk H as rs) : RowsA mk H' as rs := h.keep fun b o _ e => k b o e
theorem RowsA.len {mk : List V → HO} {H : Hp} : ∀ {as : List Addr} {rs : List (List Int)}, RowsA mk H as rs → as.length = rs.length
  | [], [], _ => rfl
  | a :: as, r :: rs, h => congrArg (· + 1) h.2.len
  | [], _ :: _, h => h.elim
  | _ :: _, [], h => h.elim
theorem RowsA.snoc {mk : List V → HO} {H : Hp} {a : Addr} {r : List Int} (ha : H a = some (mk (r.map V.int))) : ∀ {as : List Addr} {rs : List (List Int)}, RowsA mk H as rs → RowsA mk H (as ++ [a]) (rs ++ [r])
  | [], [], _ => ⟨ha, True.intro⟩
  | b :: as, q :: rs, h => ⟨h.1, h.2.snoc ha⟩
  | [], _ :: _, h => h.elim
  | _ :: _, [], h => h.elim
theorem RowsA.get {mk : List V → HO} {H : Hp} : ∀ {as : List Addr} {rs : List (List Int)} {i : Nat} {a : Addr}, RowsA mk H as rs → as[i]? = some a → ∃ r, rs[i]? = some r ∧ H a = some (mk (r.map V.int))
  | [], _, _, _, _, e => by simp at e
  | b :: as, [], _, _, h, _ => h.elim
  | b :: as, q :: rs, 0, a, h, e => by
    have : b = a := Option.some.inj e
    subst this
    exact ⟨q, rfl, h.1⟩
  | b :: as, q :: rs, i + 1, a, h, e => RowsA.get (i := i) h.2 e
theorem RowsA.q1 {H : Hp} : ∀ {as : List Addr} {rs : List (List Int)}, RowsA .lst H as rs → RowsQ H as rs
  | [], [], _ => True.intro
  | a :: as, r :: rs, h => ⟨.inl h.1, h.2.q1⟩
  | [], _ :: _, h => h.elim
  | _ :: _, [], h => h.elim
theorem RowsA.q2 {H : Hp} : ∀ {as : List Addr} {rs : List (List Int)}, RowsA .tup H as rs → RowsQ H as rs
  | [], [], _ => True.intro
  | a :: as, r :: rs, h => ⟨.inr h.1, h.2.q2⟩
  | [], _ :: _, h => h.elim
  | _ :: _, [], h => h.elim
theorem RowsQ.same {H H' : Hp} (k : Same H H') : ∀ {as : List Addr} {rs : List (List Int)}, RowsQ H as rs → RowsQ H' as rs
  | [], [], _ => True.intro
  | a :: as, r :: rs, h => ⟨h.1.same k, h.2.same k⟩
  | [], _ :: _, h => h.elim
  | _ :: _, [], h => h.elim
theorem RowsQ.len {H : Hp} : ∀ {as : List Addr} {rs : List (List Int)}, RowsQ H as rs → as.length = rs.length
  | [], [], _ => rfl
  | a :: as, r :: rs, h => congrArg (· + 1) h.2.len
  | [], _ :: _, h => h.elim
  | _ :: _, [], h => h.elim
theorem RowsQ.get {H : Hp} : ∀ {as : List Addr} {rs : List (List Int)} {i : Nat} {a : Addr}, RowsQ H as rs → as[i]? = some a → ∃ r, rs[i]? = some r ∧ SeqI H a r
  | [], _, _, _, _, e => by simp at e
  | b :: as, [], _, _, h, _ => h.elim
  | b :: as, q :: rs, 0, a, h, e => by
    have : b = a := Option.some.inj e
    subst this
    exact ⟨q, rfl, h.1⟩
  | b :: as, q :: rs, i + 1, a, h, e => RowsQ.get (i := i) h.2 e
/-- a list or a tuple of any values -/
def SeqV (H : Hp) (a : Addr) (xs : List V) : Prop := H a = some (.lst xs) ∨ H a = some (.tup xs)
theorem SeqV.same {H H' : Hp} {a : Addr} {xs : List V} (k : Same H H') (h : SeqV H a xs) : SeqV H' a xs := by
  rcases h with h | h
  · exact .inl (k _ _ h)
  · exact .inr (k _ _ h)
theorem SeqV.sq {K : PySem.W.Frag} {H : Hp} {a : Addr} {xs : List V} (h : SeqV H a xs) : SqL K H a xs ∨ SqT K H a xs := by
  rcases h with h | h
  · exact .inl (.of h)
  · exact .inr (.of h)
def iSeq (K : PySem.W.Frag) (te : TE) : TI := fun σ H R => iList K te σ H R ∨ iTup K te σ H R
theorem pi_listK {X : Cx} {K : PySem.W.Frag} {tg e : Expr} {te : TE} (h : X.K = K) (he : PE X e te) : PI X tg e (iList K te) := by
  subst h
  exact pi_list he
theorem pi_tupK {X : Cx} {K : PySem.W.Frag} {tg e : Expr} {te : TE} (h : X.K = K) (he : PE X e te) : PI X tg e (iTup K te) := by
  subst h
  exact pi_tup he
theorem pi_seq {X : Cx} {K : PySem.W.Frag} {tg e : Expr} {te : TE} (h : X.K = K) (he : PE X e te) : PI X tg e (iSeq K te) := by
  subst h
  exact pi_or (pi_list he) (pi_tup he)
theorem for_seq {K : PySem.W.Frag} {i : Nat} {a : Addr} {xs : List V} {g : TG} {tb : TS} {D : Ends} {σ : L2.St} {H : Hp} (hv : σ[i]? = some (some (.ref a))) (hq : SeqV H a xs) (Pv : Nat → L2.St → Hp → Prop) (h0 : Pv 0 σ H) (hS : ∀ i σ' H', Pv i σ' H' → Same H H')
    (hs : ∀ i x σ H, xs[i]? = some x → Pv i σ H → g x σ H fun σ2 H2 => tb { D with nx := Pv (i + 1), ct := Pv (i + 1), bk := D.nx } σ2 H2) (hd : ∀ σ H, Pv xs.length σ H → D.nx σ H) : tFor (iSeq K (tVar i)) g tb D σ H := by
  rcases hq with h | h
  · exact .inl ⟨_, hv, a, rfl, ⟨_, .of h⟩, for_list Pv h0 (fun i σ' H' _ p => .of (hS i σ' H' p _ _ h)) hs hd⟩
  · exact .inr ⟨_, hv, a, rfl, ⟨_, .of h⟩, for_tup Pv h0 (fun i σ' H' _ p => .of (hS i σ' H' p _ _ h)) hs hd⟩
/-- a list of lists of ints -/
def LL (H : Hp) (r : Addr) (as : List Addr) (rows : List (List Int)) : Prop := H r = some (.lst (as.map V.ref)) ∧ RowsA .lst H as rows
def Vld (L s : Int) (ps : List Int) (rows : List (List Int)) : Prop := 1 ≤ L ∧ rows ≠ [] ∧ ps.length = rows.length ∧ (0 ≤ s ∧ s < (rows.length : Int)) ∧ (∀ r ∈ rows, (r.length : Int) = L ∧ ∀ x ∈ r, 0 ≤ x ∧ x < (rows.length : Int)) ∧ ∀ p ∈ ps, 0 ≤ p
/-- the fields of a parity automaton, as they are stored -/
def pf (L s : Int) (pt rt : Addr) : List (Str × V) := putF "rows" (.ref rt) (putF "priorities" (.ref pt) (putF "start" (.int s) (putF "letters" (.int L) [])))
theorem putF_len (f : Str) (v : V) : ∀ fs : List (Str × V), (putF f v fs).length ≤ fs.length + 1
  | [] => Nat.le_refl _
  | (g, x) :: r => by
    unfold putF
    by_cases c : g = f
    · rw [if_pos c]
      exact Nat.le_succ _
    · rw [if_neg c]
      exact Nat.succ_le_succ (putF_len f v r)
theorem pf_L (L s : Int) (pt rt : Addr) : (pf L s pt rt).lookup ("letters" : Str) = some (.int L) := by
  unfold pf
  rw [lookup_putF, if_neg (by decide +kernel), lookup_putF, if_neg (by decide +kernel), lookup_putF, if_neg (by decide +kernel), lookup_putF, if_pos rfl]
theorem pf_s (L s : Int) (pt rt : Addr) : (pf L s pt rt).lookup ("start" : Str) = some (.int s) := by
  unfold pf
  rw [lookup_putF, if_neg (by decide +kernel), lookup_putF, if_neg (by decide +kernel), lookup_putF, if_pos rfl]
theorem pf_p (L s : Int) (pt rt : Addr) : (pf L s pt rt).lookup ("priorities" : Str) = some (.ref pt) := by
  unfold pf
  rw [lookup_putF, if_neg (by decide +kernel), lookup_putF, if_pos rfl]
theorem pf_r (L s : Int) (pt rt : Addr) : (pf L s pt rt).lookup ("rows" : Str) = some (.ref rt) := by
  unfold pf
  rw [lookup_putF, if_pos rfl]
/-- a parity automaton at x -/
def ParAt (C : Addr) (H : Hp) (x : Addr) (L s : Int) (ps : List Int) (rows : List (List Int)) : Prop := ∃ (dx pt rt : Addr) (as : List Addr), H x = some (.ins C dx (pf L s pt rt)) ∧ TupI H pt ps ∧ H rt = some (.tup (as.map V.ref)) ∧ RowsA .tup H as rows
theorem ParAt.same {C : Addr} {H H' : Hp} {x : Addr} {L s : Int} {ps : List Int} {rows : List (List Int)} (k : Same H H') (h : ParAt C H x L s ps rows) : ParAt C H' x L s ps rows := by
  obtain ⟨dx, pt, rt, as, e1, e2, e3, e4⟩ := h
  exact ⟨dx, pt, rt, as, k _ _ e1, k _ _ e2, k _ _ e3, e4.same k⟩
/-- what the class has -/
structure ParC (K : PySem.W.Frag) (C : Addr) : Prop where
  cl : Cls K C
  nL : NoAttr K C "letters"
  nS : NoAttr K C "start"
  nP : NoAttr K C "priorities"
  nR : NoAttr K C "rows"
def spCheckS (cI : Addr) : Sp := fun vs H Q E => ∃ (z n : Int), vs = [.int z, .int n] ∧ (¬ (0 ≤ z ∧ z < n) → E (.ref cI) none H) ∧ ((0 ≤ z ∧ z < n) → Q .non H)
def spInitP (C cI : Addr) : Sp := fun vs H Q E => ∃ (x p r dx : Addr) (L s : Int) (ps : List Int) (as : List Addr) (rows : List (List Int)), vs = [.ref x, .int L, .int s, .ref p, .ref r] ∧ H x = some (.ins C dx []) ∧ H p = some (.lst (ps.map V.int)) ∧ SeqV H r (as.map V.ref) ∧ RowsQ H as rows ∧
  rows.length ≤ 1000 ∧ ps.length ≤ 1000 ∧ (∀ q ∈ rows, q.length ≤ 1000) ∧ (¬ Vld L s ps rows → E (.ref cI) none H) ∧ (Vld L s ps rows → ∀ H', Kp x H H' → ParAt C H' x L s ps rows → Q .non H')
end Bx
namespace Bx
open PySem PySem.Spec PyProof.Rows L2
theorem lc_seq {K : PySem.W.Frag} {i : Nat} {a : Addr} {xs : List V} {g : TG} {tt : TT} {te : TE} {vs : List Nat} {σ : L2.St} {H : Hp} {Q : VK} (hv : σ[i]? = some (some (.ref a))) (hq : SeqV H a xs) (Pv : Addr → Nat → Hp → Prop) (h0 : ∀ D, H D = none → Pv D 0 (upd H D (.lst [])))
    (hS : ∀ D j H', H D = none → Pv D j H' → Same H H')
    (hs : ∀ D, H D = none → ∀ i x H', xs[i]? = some x → Pv D i H' → g x (wipe σ vs) H' fun σ2 H2 => wipe σ2 vs = wipe σ vs ∧ tt σ2 H2 fun b H3 => if b = true then te σ2 H3 fun y H4 => ∃ acc, H4 D = some (.lst acc) ∧ acc.length < sizeLine ∧ Pv D (i + 1) (upd H4 D (.lst (acc ++ [y]))) else Pv D (i + 1) H3)
    (hd : ∀ D H', H D = none → Pv D xs.length H' → Q (.ref D) H') : tLc (iSeq K (tVar i)) g tt te vs σ H Q := by
  rcases hq with h | h
  · exact .inl ⟨_, hv, a, rfl, ⟨_, .of h⟩, fun D hD => lc_list (Pv D) (h0 D hD) (fun i H' _ p => .of (hS D i H' hD p _ _ h)) (hs D hD) (fun H' p => hd D H' hD p)⟩
  · exact .inr ⟨_, hv, a, rfl, ⟨_, .of h⟩, fun D hD => lc_tup (Pv D) (h0 D hD) (fun i H' _ p => .of (hS D i H' hD p _ _ h)) (hs D hD) (fun H' p => hd D H' hD p)⟩
theorem rowsUpd {H : Hp} {x : Addr} {o : HO} (hx : ∀ ys, H x ≠ some (.tup ys)) : ∀ {as : List Addr} {rs : List (List Int)}, RowsA .tup H as rs → RowsA .tup (upd H x o) as rs
  | [], [], _ => True.intro
  | a :: as, r :: rs, h => ⟨by
      have h1 := h.1
      rw [upd_ne (fun z => by rw [z] at h1; exact hx _ h1)]
      exact h1, rowsUpd hx h.2⟩
  | [], _ :: _, h => h.elim
  | _ :: _, [], h => h.elim
theorem refs_get {as : List Addr} {i : Nat} {v : V} (h : (as.map V.ref)[i]? = some v) : ∃ a, as[i]? = some a ∧ v = .ref a := by
  rw [List.getElem?_map] at h
  cases e : as[i]? with
  | none => rw [e] at h; cases h
  | some z => rw [e] at h; exact ⟨z, rfl, (Option.some.inj h).symm⟩
theorem ints_get {xs : List Int} {i : Nat} {v : V} (h : (xs.map V.int)[i]? = some v) : ∃ x, xs[i]? = some x ∧ v = .int x := by
  rw [List.getElem?_map] at h
  cases e : xs[i]? with
  | none => rw [e] at h; cases h
  | some z => rw [e] at h; exact ⟨z, rfl, (Option.some.inj h).symm⟩
theorem take_get {α : Type} {xs : List α} {i : Nat} {x : α} (h : xs[i]? = some x) : xs.take (i + 1) = xs.take i ++ [x] := by
  rw [List.take_add_one, h]
  rfl
theorem pl_next {f : Str} {v : V} {fs : List (Str × V)} {n : Nat} (h : fs.length ≤ n) : (putF f v fs).length ≤ n + 1 := Nat.le_trans (putF_len f v fs) (Nat.succ_le_succ h)
theorem pl_lt {fs : List (Str × V)} {n : Nat} (h : fs.length ≤ n) (k : n < 1000) : fs.length < 1000 := Nat.lt_of_le_of_lt h k
theorem pl_0 : ([] : List (Str × V)).length ≤ 0 := Nat.le_refl _
theorem fld_def {Kf : PySem.W.Frag} {ta tv : TE} {f : Str} {D : Ends} {σ : L2.St} {H : Hp} (h : tv σ H fun y H1 => ta σ H1 fun x H2 => ∃ a C dx fs, x = .ref a ∧ H2 a = some (.ins C dx fs) ∧ Cls Kf C ∧ NoAttr Kf C f ∧ fs.length < 1000 ∧ D.nx σ (upd H2 a (.ins C dx (putF f y fs)))) : sFld Kf ta tv f D σ H := h
theorem cb1_def {r : List V → Hp → VK → Prop} {te : TE} {σ : L2.St} {H : Hp} {Q : VK} (h : te σ H fun v H1 => r [v] H1 Q) : tCB r (tCons te tNil) σ H Q := h
theorem rows_some {mk : List V → HO} {H : Hp} : ∀ {as : List Addr} {rs : List (List Int)} {a : Addr}, RowsA mk H as rs → a ∈ as → ∃ o, H a = some o
  | [], _, _, _, h => by simp at h
  | b :: as, [], _, h, _ => h.elim
  | b :: as, r :: rs, a, h, m => by
    rcases List.mem_cons.mp m with z | z
    · rw [z]
      exact ⟨_, h.1⟩
    · exact rows_some h.2 z
theorem LL.same {H H' : Hp} {r : Addr} {as : List Addr} {rows : List (List Int)} (k : Same H H') (h : LL H r as rows) : LL H' r as rows := ⟨k _ _ h.1, h.2.same k⟩
def exS (d : Scope) : Expr → Scope
  | .ListComp _ _ s _ => s
  | .Call _ (.ListComp _ _ s _ :: _) _ _ => s
  | _ => d
def stS (d : Scope) (i : Nat) (b : List Stmt) : Scope := match b[i]? with
  | some (.Return (some e) _) => exS d e
  | some (.Assign _ e _) => exS d e
  | _ => d
/-- ascending numbers below n -/
def Asc (n : Int) (xs : List Int) : Prop := xs.Pairwise (· < ·) ∧ ∀ x ∈ xs, 0 ≤ x ∧ x < n
/-- rows of rows of ints -/
def CubB (mk : List V → HO) (H : Hp) : List Addr → List (List Addr) → List (List (List Int)) → Prop
  | [], [], [] => True
  | a :: as, bs :: bss, r :: rs => (H a = some (mk (bs.map V.ref)) ∧ RowsA mk H bs r) ∧ CubB mk H as bss rs
  | _, _, _ => False
theorem cub_keep {mk : List V → HO} {H H' : Hp} : ∀ {as : List Addr} {bss : List (List Addr)} {c : List (List (List Int))}, (∀ b o, (b ∈ as ∨ ∃ bs ∈ bss, b ∈ bs) → H b = some o → H' b = some o) → CubB mk H as bss c → CubB mk H' as bss c
  | [], [], [], _, _ => True.intro
  | a :: as, bs :: bss, r :: rs, k, h => ⟨⟨k a _ (.inl List.mem_cons_self) h.1.1, h.1.2.keep fun b o hb => k b o (.inr ⟨bs, List.mem_cons_self, hb⟩)⟩, cub_keep (fun b o hb => k b o (by
      rcases hb with z | ⟨q, z, y⟩
      · exact .inl (List.mem_cons_of_mem _ z)
      · exact .inr ⟨q, List.mem_cons_of_mem _ z, y⟩)) h.2⟩
  | [], [], _ :: _, _, h => h.elim
  | [], _ :: _, _, _, h => h.elim
  | _ :: _, [], _, _, h => h.elim
  | _ :: _, _ :: _, [], _, h => h.elim
theorem cub_same {mk : List V → HO} {H H' : Hp} {as : List Addr} {bss : List (List Addr)} {c : List (List (List Int))} (s : Same H H') (h : CubB mk H as bss c) : CubB mk H' as bss c := cub_keep (fun b o _ e => s b o e) h
theorem cub_len {mk : List V → HO} {H : Hp} : ∀ {as : List Addr} {bss : List (List Addr)} {c : List (List (List Int))}, CubB mk H as bss c → as.length = c.length ∧ bss.length = c.length
  | [], [], [], _ => ⟨rfl, rfl⟩
  | a :: as, bs :: bss, r :: rs, h => ⟨congrArg (· + 1) (cub_len h.2).1, congrArg (· + 1) (cub_len h.2).2⟩
  | [], [], _ :: _, h => h.elim
  | [], _ :: _, _, h => h.elim
  | _ :: _, [], _, h => h.elim
  | _ :: _, _ :: _, [], h => h.elim
theorem cub_snoc {mk : List V → HO} {H : Hp} {a : Addr} {bs : List Addr} {r : List (List Int)} (h1 : H a = some (mk (bs.map V.ref))) (h2 : RowsA mk H bs r) : ∀ {as : List Addr} {bss : List (List Addr)} {c : List (List (List Int))}, CubB mk H as bss c → CubB mk H (as ++ [a]) (bss ++ [bs]) (c ++ [r])
  | [], [], [], _ => ⟨⟨h1, h2⟩, True.intro⟩
  | b :: as, cs :: bss, q :: rs, h => ⟨h.1, cub_snoc h1 h2 h.2⟩
  | [], [], _ :: _, h => h.elim
  | [], _ :: _, _, h => h.elim
  | _ :: _, [], _, h => h.elim
  | _ :: _, _ :: _, [], h => h.elim
theorem cub_get {mk : List V → HO} {H : Hp} : ∀ {as : List Addr} {bss : List (List Addr)} {c : List (List (List Int))} {i : Nat} {a : Addr}, CubB mk H as bss c → as[i]? = some a → ∃ bs r, bss[i]? = some bs ∧ c[i]? = some r ∧ H a = some (mk (bs.map V.ref)) ∧ RowsA mk H bs r
  | [], _, _, _, _, _, e => by simp at e
  | a :: as, bs :: bss, r :: rs, 0, b, h, e => by
    have : a = b := Option.some.inj e
    subst this
    exact ⟨bs, r, rfl, rfl, h.1.1, h.1.2⟩
  | a :: as, bs :: bss, r :: rs, i + 1, b, h, e => cub_get (i := i) h.2 e
  | _ :: _, [], _, _, _, h, _ => h.elim
  | _ :: _, _ :: _, [], _, _, h, _ => h.elim
theorem cub_some {mk : List V → HO} {H : Hp} : ∀ {as : List Addr} {bss : List (List Addr)} {c : List (List (List Int))} {b : Addr}, CubB mk H as bss c → (b ∈ as ∨ ∃ bs ∈ bss, b ∈ bs) → ∃ o, H b = some o
  | [], [], _, _, _, h => by
    rcases h with h | ⟨_, h, _⟩
    · simp at h
    · simp at h
  | a :: as, bs :: bss, r :: rs, b, h, m => by
    rcases m with m | ⟨q, m, y⟩
    · rcases List.mem_cons.mp m with z | z
      · rw [z]; exact ⟨_, h.1.1⟩
      · exact cub_some h.2 (.inl z)
    · rcases List.mem_cons.mp m with z | z
      · rw [z] at y; exact rows_some h.1.2 y
      · exact cub_some h.2 (.inr ⟨q, z, y⟩)
  | [], _ :: _, _, _, h, _ => h.elim
  | _ :: _, [], _, _, h, _ => h.elim
  | _ :: _, _ :: _, [], _, h, _ => h.elim
/-- an object that is not one of the rows may change -/
theorem cub_tup {H : Hp} {x : Addr} {o : HO} (hx : ∀ ys, H x ≠ some (.tup ys)) : ∀ {as : List Addr} {bss : List (List Addr)} {c : List (List (List Int))}, CubB .tup H as bss c → CubB .tup (upd H x o) as bss c
  | [], [], [], _ => True.intro
  | a :: as, bs :: bss, r :: rs, h => ⟨⟨by
      have h1 := h.1.1
      rw [upd_ne (fun z => by rw [z] at h1; exact hx _ h1)]
      exact h1, rowsUpd hx h.1.2⟩, cub_tup hx h.2⟩
  | [], [], _ :: _, h => h.elim
  | [], _ :: _, _, h => h.elim
  | _ :: _, [], _, h => h.elim
  | _ :: _, _ :: _, [], h => h.elim
theorem rows_kp {mk : List V → HO} {H H' : Hp} {x : Addr} (hx : ∀ ys, H x ≠ some (mk ys)) (k : Kp x H H') : ∀ {as : List Addr} {rs : List (List Int)}, RowsA mk H as rs → RowsA mk H' as rs
  | [], [], _ => True.intro
  | a :: as, r :: rs, h => ⟨k _ _ (fun z => by have h1 := h.1; rw [z] at h1; exact hx _ h1) h.1, rows_kp hx k h.2⟩
  | [], _ :: _, h => h.elim
  | _ :: _, [], h => h.elim
theorem cub_kp {mk : List V → HO} {H H' : Hp} {x : Addr} (hx : ∀ ys, H x ≠ some (mk ys)) (k : Kp x H H') : ∀ {as : List Addr} {bss : List (List Addr)} {c : List (List (List Int))}, CubB mk H as bss c → CubB mk H' as bss c
  | [], [], [], _ => True.intro
  | a :: as, bs :: bss, r :: rs, h => ⟨⟨k _ _ (fun z => by have h1 := h.1.1; rw [z] at h1; exact hx _ h1) h.1.1, rows_kp hx k h.1.2⟩, cub_kp hx k h.2⟩
  | [], [], _ :: _, h => h.elim
  | [], _ :: _, _, h => h.elim
  | _ :: _, [], _, h => h.elim
  | _ :: _, _ :: _, [], h => h.elim
def bf (L : Int) (it at_ rt : Addr) : List (Str × V) := putF "rows" (.ref rt) (putF "accepting" (.ref at_) (putF "initial" (.ref it) (putF "letters" (.int L) [])))
theorem bf_L (L : Int) (a b c : Addr) : (bf L a b c).lookup ("letters" : Str) = some (.int L) := by
  unfold bf
  rw [lookup_putF, if_neg (by decide +kernel), lookup_putF, if_neg (by decide +kernel), lookup_putF, if_neg (by decide +kernel), lookup_putF, if_pos rfl]
theorem bf_i (L : Int) (a b c : Addr) : (bf L a b c).lookup ("initial" : Str) = some (.ref a) := by
  unfold bf
  rw [lookup_putF, if_neg (by decide +kernel), lookup_putF, if_neg (by decide +kernel), lookup_putF, if_pos rfl]
theorem bf_a (L : Int) (a b c : Addr) : (bf L a b c).lookup ("accepting" : Str) = some (.ref b) := by
  unfold bf
  rw [lookup_putF, if_neg (by decide +kernel), lookup_putF, if_pos rfl]
theorem bf_r (L : Int) (a b c : Addr) : (bf L a b c).lookup ("rows" : Str) = some (.ref c) := by
  unfold bf
  rw [lookup_putF, if_pos rfl]
def AutAt (C : Addr) (H : Hp) (x : Addr) (L : Int) (ini acc : List Int) (c : List (List (List Int))) : Prop := ∃ (dx it at_ rt : Addr) (as : List Addr) (bss : List (List Addr)), H x = some (.ins C dx (bf L it at_ rt)) ∧ TupI H it ini ∧ TupI H at_ acc ∧ H rt = some (.tup (as.map V.ref)) ∧ CubB .tup H as bss c
theorem aut_same {C : Addr} {H H' : Hp} {x : Addr} {L : Int} {ini acc : List Int} {c : List (List (List Int))} (k : Same H H') (h : AutAt C H x L ini acc c) : AutAt C H' x L ini acc c := by
  obtain ⟨dx, it, at_, rt, as, bss, e1, e2, e3, e4, e5⟩ := h
  exact ⟨dx, it, at_, rt, as, bss, k _ _ e1, k _ _ e2, k _ _ e3, k _ _ e4, cub_same k e5⟩
structure AutC (K : PySem.W.Frag) (C : Addr) : Prop where
  cl : Cls K C
  nL : NoAttr K C "letters"
  nI : NoAttr K C "initial"
  nA : NoAttr K C "accepting"
  nR : NoAttr K C "rows"
  c1 : PySem.W.findIn K (.ref C) "__class__" = some (some (.builtin "object.__class__"))
  c2 : PySem.W.specialIn K (.builtin "object.__class__") "__get__" = some (some (.builtin "getset_descriptor.__get__"))
  c3 : PySem.W.takesIn K (.builtin "object.__class__") = some true
  c4 : PySem.W.mroIn K C (.type "object") = some true
  c5 : PySem.W.kitOne K (.ref C) (.ref C) = some true
def VldB (L : Int) (ini acc : List Int) (c : List (List (List Int))) : Prop := 1 ≤ L ∧ c ≠ [] ∧ Asc c.length ini ∧ Asc c.length acc ∧ ∀ r ∈ c, (r.length : Int) = L ∧ ∀ e ∈ r, Asc c.length e
/-- a list of lists of lists -/
def LC (H : Hp) (r : Addr) (as : List Addr) (bss : List (List Addr)) (c : List (List (List Int))) : Prop := H r = some (.lst (as.map V.ref)) ∧ CubB .lst H as bss c
def spChecks (cI : Addr) : Sp := fun vs H Q E => ∃ (a : Addr) (xs : List Int) (n : Int), vs = [.ref a, .int n] ∧ H a = some (.lst (xs.map V.int)) ∧ (¬ Asc n xs → E (.ref cI) none H) ∧ (Asc n xs → Q .non H)
def spInitB (C cI : Addr) : Sp := fun vs H Q E => ∃ (x i a r dx : Addr) (L : Int) (ini acc : List Int) (as : List Addr) (bss : List (List Addr)) (c : List (List (List Int))), vs = [.ref x, .int L, .ref i, .ref a, .ref r] ∧ H x = some (.ins C dx []) ∧ H i = some (.lst (ini.map V.int)) ∧ H a = some (.lst (acc.map V.int)) ∧ LC H r as bss c ∧
  c.length ≤ 1000 ∧ (∀ r ∈ c, r.length ≤ 1000) ∧ (¬ VldB L ini acc c → E (.ref cI) none H) ∧ (VldB L ini acc c → ∀ H', Kp x H H' → AutAt C H' x L ini acc c → Q .non H')
end Bx

/-! ### own rules: a list extended by a tuple; a tuple's slice with a step -/
namespace Tx
open PySem PySem.Spec PyProof.Rows L2
section
variable {prog : Program} {w : World} {A : Around} {E : Value → Shared → Prop} {s : Shared}
set_option maxRecDepth 8000 in
theorem ext_tup (l b : Addr) (xs ys : Array Value) (n m : Nat) (dd : Option Addr) (sl : Array (Option Value)) (h0 : ¬(!xs.isEmpty && Builtin.List.listTooLong (xs.size + ys.size)) = true) (h1 : xs.size ≤ sizeLine) (h2 : xs.size + ys.size ≤ sizeLine + 1) :
    Meets (Builtin.«list.extend» ⟨[.ref l, .ref b], []⟩) (fun _ R s => s.heap.get? l = some { cls := .type "list", data := .seq xs n } ∧ s.heap.get? b = some { cls := .type "tuple", dict := dd, data := .seq ys m, slots := sl } ∧
      R (.ok (.ret Value.none)) { s with heap := s.heap.update l (Obj.mapSeq fun x => x ++ ys), toks := s.toks }) := .of_wp fun prog w A R s h => by
  obtain ⟨hp, g, d, tk, os⟩ := s
  obtain ⟨hl, hb, h⟩ := h
  have q1 := AutoSeq1.idx_int
  have q2 := AutoSeq1.sub_tuple_tuple
  have q3 := AutoSeq1.sub_list_list
  have q4 := AutoSeq1.sub_tuple_list
  have q5 := AutoSeq1.sub_list_tuple
  have hz : (xs ++ ys).size ≤ sizeLine + 1 := by
    rw [Array.size_append]
    exact h2
  wp_walk using (wpAny_updateSeq hl rfl (hz := h1) (_hz' := hz)), AutoSeq1.wpAny_loadPart' hl, AutoSeq1.wpAny_loadPart' hb
  exact ⟨_, rfl, h⟩
end
section
variable {X : Cx} {K : PySem.W.Frag}
def rExtT (K : PySem.W.Frag) : V → List V → Hp → VK → Prop := fun x vs H Q => ∃ l b xs zs, x = .ref l ∧ vs = [.ref b] ∧ H l = some (.lst xs) ∧ SqT K H b zs ∧ xs.length + zs.length ≤ sizeLine ∧ Q .non (upd H l (.lst (xs ++ zs)))
theorem mt_extT (hK : X.K = K) : MtM X "list.extend" (rExtT K) := by
  subst hK
  intro pins s σ H x vs v us Q I rx rv ⟨l, b, xs, zs, ex, ev, hH, hB, hz, q⟩
  subst ex
  subst ev
  cases rx
  obtain ⟨u, rfl, ru⟩ := rv.one
  cases ru
  obtain ⟨z, its, n, r, hl, e⟩ := I.lstM hH
  obtain ⟨its2, r2, ⟨⟨oc, od, ob, os⟩, e2, ec, m, eb⟩, z2⟩ := I.tuple hB
  have hl2 := r2.length
  dsimp only at ec eb
  subst ec
  subst eb
  have hs : its.toArray.size + its2.toArray.size ≤ sizeLine := by
    rw [List.size_toArray, List.size_toArray]
    omega
  refine call_meets F.slot_list_extend ⟨_, e, rfl⟩ F.entry_list_extend (F.args_list_extend_2 _ _) (ext_tup l b its.toArray its2.toArray n m od os (fun c => ?_) (by omega) (by omega)) ⟨e, e2, ?_⟩
  · rw [notLongL hs, Bool.and_false] at c
    cases c
  · refine ⟨.non, _, I.lset (its' := its ++ its2) hH e (by simp) (r.append r2) ?_, rfl, q⟩
    rw [List.length_append]
    omega
/-- the items that a slice with a step picks -/
def pk3 {α : Type} (xs : List α) (lo hi : Option Int) (c : Int) : List α :=
  (List.range (Builtin.Slice.slicePlaces (Builtin.Slice.sliceAdjust lo hi c xs.length).1 (Builtin.Slice.sliceAdjust lo hi c xs.length).2 c)).filterMap fun (k : Nat) => xs[((Builtin.Slice.sliceAdjust lo hi c xs.length).1 + (k : Int) * c).toNat]?
theorem pk3_vals {xs : List V} {us : List Value} (r : Vals xs us) (lo hi : Option Int) (c : Int) : Vals (pk3 xs lo hi c) (pk3 us lo hi c) := by
  unfold pk3
  rw [r.length]
  generalize List.range (Builtin.Slice.slicePlaces (Builtin.Slice.sliceAdjust lo hi c us.length).1 (Builtin.Slice.sliceAdjust lo hi c us.length).2 c) = ks
  generalize (Builtin.Slice.sliceAdjust lo hi c us.length).1 = b
  induction ks with
  | nil => exact .nil
  | cons k ks ih =>
    rw [List.filterMap_cons, List.filterMap_cons]
    cases e : xs[(b + (k : Int) * c).toNat]? with
    | none =>
      have : us[(b + (k : Int) * c).toNat]? = none := by
        rw [List.getElem?_eq_none_iff] at e ⊢
        rw [← r.length]
        exact e
      rw [this]
      exact ih
    | some x =>
      obtain ⟨u, e2, ru⟩ := Vals.get r e
      rw [e2]
      exact .cons ru ih
theorem pk3_len {α : Type} (xs : List α) (lo hi : Option Int) (c : Int) : (pk3 xs lo hi c).length ≤ Builtin.Slice.slicePlaces (Builtin.Slice.sliceAdjust lo hi c xs.length).1 (Builtin.Slice.sliceAdjust lo hi c xs.length).2 c := by
  unfold pk3
  refine Nat.le_trans (List.length_filterMap_le _ _) ?_
  rw [List.length_range]
  exact Nat.le_refl _
end
section
variable {prog : Program} {w : World} {A : Around} {E : Value → Shared → Prop} {s : Shared}
theorem applied3 {sl : Addr} {vl vu vs : Value} {lo hi : Option Int} {c : Int} {n : Nat} {Q : Int × Int × Nat → Shared → Prop} (hs : s.heap.IsSliceOf sl vl vu vs) (pl : IsPart vl lo) (pu : IsPart vu hi) (ps : IsPart vs (some c)) (hc : c ≠ 0)
    (h : Q ((Builtin.Slice.sliceAdjust lo hi c n).1, c, Builtin.Slice.slicePlaces (Builtin.Slice.sliceAdjust lo hi c n).1 (Builtin.Slice.sliceAdjust lo hi c n).2 c) s) :
    wpAny (model prog w) A (Builtin.Slice.sliceApplied (.ref sl) (pure (n : Int))) Q E s := by
  obtain ⟨ob, g1, _, g3⟩ := id hs
  unfold Builtin.Slice.sliceApplied Builtin.Slice.sliceFields
  refine wpAny_bind (wpAny_bind (wpAny_field g1 g3 (x := vl) rfl (wpAny_bind (wpAny_field g1 g3 (x := vu) rfl (wpAny_bind (wpAny_field g1 g3 (x := vs) rfl (wpAny_pure ?_)))))))
  refine wpAny_bind (HT.slicePart_ ps ?_)
  show wpAny _ _ (if (c == 0) = true then _ else _) _ _ s
  rw [if_neg (by simpa using hc)]
  refine wpAny_bind (HT.slicePart_ pl (wpAny_bind (HT.slicePart_ pu (wpAny_bind (wpAny_pure ?_)))))
  show wpAny _ _ (match Builtin.Slice.sliceAdjust lo hi c (n : Int) with | (lo, hi) => pure (lo, c, Builtin.Slice.slicePlaces lo hi c)) _ _ s
  exact wpAny_pure h
theorem item3 {t sl : Addr} {items : List Value} {vl vu vs : Value} {lo hi : Option Int} {c : Int} {Q : Value → Shared → Prop} (ht : IsTup s.heap t items.toArray) (hs : s.heap.IsSliceOf sl vl vu vs) (pl : IsPart vl lo) (pu : IsPart vu hi) (ps : IsPart vs (some c)) (hc : c ≠ 0)
    (h1 : c ≠ 1) (h : Q (.ref s.heap.objs.size) { s with heap := s.heap.push { cls := .type "tuple", data := .seq (pk3 items lo hi c).toArray } }) (hz : (pk3 items lo hi c).length ≤ sizeLine) :
    wpAny (model prog w) A (getItem (.ref t) (.ref sl)) Q E s := by
  have fits : sizeOk (.seq (pk3 items lo hi c).toArray) := by
    show (pk3 items lo hi c).toArray.size ≤ sizeLine
    rw [List.size_toArray]
    exact hz
  have isl : s.TypeIs (.ref sl) "slice" := by
    obtain ⟨ob, g1, g2, _⟩ := id hs
    exact ⟨ob, g1, g2⟩
  unfold getItem
  try with_reducible refine wpAny_holding ?_
  first | refine wpAny_bind (wpAny_pure ?_) | skip
  refine wpAny_bind (wpAny_sequenceKey ht.typeIs (by decide) (wpAny_bind (wpAny_callSpecial?_slot (name := Str.ofString "__getitem__") ht.typeIs slot_tuple_getitem (wpAny_call_entry slot_tuple_getitem ht.typeIs entry_tuple_getitem ?_ (args_tuple_getitem _ _)))))
  show wpAny _ _ (Builtin.Tuple.tupleItemsOf (.ref t) >>= _) _ _ s
  refine wpAny_bind (tupleItemsOf_ ht (wpAny_bind (wpAny_typeOf isl ?_)))
  rw [if_pos (by decide)]
  refine wpAny_bind (applied3 hs pl pu ps hc ?_)
  have no : ¬ (((Builtin.Slice.sliceAdjust lo hi c items.toArray.size).1 == 0 && c == 1 && (Builtin.Slice.slicePlaces (Builtin.Slice.sliceAdjust lo hi c items.toArray.size).1 (Builtin.Slice.sliceAdjust lo hi c items.toArray.size).2 c) == items.toArray.size) = true) := fun q => by
    rw [Bool.and_eq_true, Bool.and_eq_true] at q
    exact h1 (eq_of_beq q.1.2)
  have e : ((List.range (Builtin.Slice.slicePlaces (Builtin.Slice.sliceAdjust lo hi c items.toArray.size).1 (Builtin.Slice.sliceAdjust lo hi c items.toArray.size).2 c)).filterMap fun (k : Nat) => items.toArray[((Builtin.Slice.sliceAdjust lo hi c items.toArray.size).1 + (k : Int) * c).toNat]?) = pk3 items lo hi c := by
    unfold pk3
    rw [List.size_toArray]
    simp only [List.getElem?_toArray]
  show wpAny _ _ (if ((Builtin.Slice.sliceAdjust lo hi c items.toArray.size).1 == 0 && c == 1 && (Builtin.Slice.slicePlaces (Builtin.Slice.sliceAdjust lo hi c items.toArray.size).1 (Builtin.Slice.sliceAdjust lo hi c items.toArray.size).2 c) == items.toArray.size) = true then _ else _) _ _ s
  rw [if_neg no, e]
  first
    | exact wpAny_bind (m := Builtin.Tuple.tupleExact _) (wpAny_newObj_type (wpAny_pure ⟨_, rfl, wpAny_pure h⟩) fits)
    | exact wpAny_bind (m := Builtin.Tuple.tupleExact _) (wpAny_newObj_type (wpAny_bind (wpAny_pure (wpAny_pure ⟨_, rfl, wpAny_pure h⟩))) fits)
    | exact wpAny_bind (wpAny_bind (m := Builtin.Tuple.tupleExact _) (wpAny_newObj_type (wpAny_pure (wpAny_pure ⟨_, rfl, wpAny_pure h⟩)) fits))
    | exact wpAny_bind (wpAny_bind (m := Builtin.Tuple.tupleExact _) (wpAny_newObj_type (wpAny_pure ⟨_, rfl, wpAny_pure h⟩) fits))
end
section
variable {X : Cx} {K : PySem.W.Frag} {e s3 : Expr} {lo hi : Option Expr} {te : TE} {tl th t3 : TO} {p3 pos : Pos}
def tSl3 (K : PySem.W.Frag) (te : TE) (tl th t3 : TO) : TE := fun σ H Q => te σ H fun x H1 => tl σ H1 fun l H2 => th σ H2 fun u H3 => t3 σ H3 fun c H4 => ∃ a xs k, x = .ref a ∧ c = some k ∧ SqT K H4 a xs ∧ k ≠ 0 ∧ k ≠ 1 ∧ (pk3 xs l u k).length ≤ sizeLine ∧
  ∀ p, H4 p = none → Q (.ref p) (upd H4 p (.tup (pk3 xs l u k)))
theorem pe_sl3 (hK : X.K = K) (he : PE X e te) (hl : PO X lo tl) (hu : PO X hi th) (h3 : PO X (some s3) t3) (ho : ∀ a b : Addr, ∃ ops, subscripted (Expr.Slice lo hi (some s3) p3) false (.ref a) (.ref b) = operate ops (getItem (.ref a) (.ref b)) := by exact fun _ _ => ⟨_, rfl⟩) : PE X (.Subscript e (.Slice lo hi (some s3) p3) pos) (tSl3 K te tl th t3) := by
  subst hK
  refine ⟨fun pins s σ H Q I h => Subscript_ (thn (he.run pins s σ H _ I h) fun v s1 ⟨x, H1, I1, r1, q1⟩ => wpAny_Slice (thn (hl.run pins s1 σ H1 _ I1 q1) fun vl s2 ⟨l, H2, I2, pl, q2⟩ => thn (hu.run pins s2 σ H2 _ I2 q2) fun vu s4 ⟨u, H3, I3, pu, q3⟩ =>
    thn (h3.run pins s4 σ H3 _ I3 q3) fun vc s5 ⟨c, H4, I4, pc, q4⟩ => ?_))⟩
  obtain ⟨a, xs, k, ex, ec, hx, k0, k1, hz, q⟩ := q4
  subst ex
  subst ec
  cases r1
  have I5 : Inv X pins σ H4 { s5 with heap := s5.heap.push { cls := .type "slice", data := .fields #[vl, vu, vc] } } := I4.kept (t' := s5.toks) fun b ob q => Heap.get?_push_of_some _ q
  obtain ⟨its, r, ht, _⟩ := I5.tuple hx
  have rv := pk3_vals r l u k
  show wpAny (model X.prog X.w) X.A (subscriptTail e (.Slice lo hi (some s3) p3) (.ref a) (.ref s5.heap.objs.size)) (EP X pins σ Q) X.xe { s5 with heap := s5.heap.push { cls := .type "slice", data := .fields #[vl, vu, vc] } }
  obtain ⟨ops, hops⟩ := ho a s5.heap.objs.size
  refine tail_any (ops := ops) ht.typeIs (slot_tuple_getitem.lookup) ?_ hops
  refine item3 ht (Heap.IsSliceOf.new _ vl vu vc) pl pu pc k0 k1 ?_ (by rw [← rv.length]; exact hz)
  refine ⟨.ref _, _, I5.laid (t' := s5.toks) (o := .tup (pk3 xs l u k)) (fun b ob q => Heap.get?_push_of_some _ q) (Nat.le_refl _) ?_, rfl, q _ (I5.hok.fresh (Nat.le_refl _))⟩
  exact ⟨hz, _, rv, IsTup.new _ _⟩
end
end Tx

/-! ### own rules: set(xs), xs a list of ints; sorted of it -/
namespace Tz
open PySem PySem.Spec PyProof.Rows L2
section
variable {P : Program} {w : World} {A : Around} {E : Value → Shared → Prop} {s : Shared}
/-- the new set, empty -/
abbrev nul (w : World) : Obj := { cls := .type "set", dict := none, data := .set #[] 0 (.fresh 0 0 (!w.params.followText "set-order")) }
/-- what the filling leaves behind -/
def Filled (w : World) (s : Shared) (ns : List Int) (s2 : Shared) : Prop := ∃ h' tk c, s2 = { s with heap := h', toks := tk } ∧ SetR w h' s.heap.objs.size (fun j => decide (j ∈ ns)) c ∧ c ≤ ns.length ∧ ∀ b o, s.heap.get? b = some o → h'.get? b = some o
theorem set_of_list {l : Addr} {items : Array Value} (ns : List Int) {Q : Value → Shared → Prop} (hh : A.handled = none) (hl : s.heap.IsList l items) (hit : IntsAre items.toList ns) (hb : ns.length + 1 < scanBound)
    (h : ∀ s2, Filled w s ns s2 → Q (.ref s.heap.objs.size) s2) : wpAny (model P w) A (call (.type "set") [.ref l]) Q E s := by
  have hisz : items.size = ns.length := by
    have q := IntsAre.length hit
    rwa [Array.length_toList] at q
  have hS : (s.heap.push (nul w)).get? s.heap.objs.size = some (nul w) := Heap.get?_push_size _ rfl
  have hlt : l < s.heap.objs.size := by
    obtain ⟨o, ho, _⟩ := hl
    exact Heap.lt_size ho
  obtain ⟨c, tl, hmro⟩ := F.called_set.mro
  have m1 := F.called_set.made
  have m2 := F.called_set.sub
  refine wpAny_call (codeAny_of_tree ?_)
  show wpAny _ _ (callAny (.type "set") _) _ _ _
  refine wpAny_pure ⟨Code.quiet_builtin _ (by decide +kernel), codeAny_builtin F.entry_type_call ?_⟩
  rw [Around.under_plain (weight_type_call_type "set" [.ref l] []) rfl]
  have m3 := F.called_set.notType
  have m4 := F.called_set.canCreate
  have m5 := F.typeCall_set_1 (.ref l)
  repeat (any_goals (first | assumption | wp_step))
  refine codeAny_mono (code_set_led1 (.ref l) (E := E) (Q₁ := fun obj s1 => obj = .ref s.heap.objs.size ∧ s1 = { s with heap := s.heap.push (nul w) }) ⟨rfl, rfl⟩) fun r s1 hr => ?_
  cases r with
  | error e => exact hr
  | ok fl =>
    cases fl with
    | next => exact hr.elim
    | brk => exact hr.elim
    | cont => exact hr.elim
    | ret obj =>
      obtain ⟨rfl, rfl⟩ := hr
      have hT : Shared.TypeIs { s with heap := s.heap.push (nul w) } (.ref s.heap.objs.size) "set" := ⟨_, hS, rfl⟩
      have m6 := F.called_set.init.lookup
      have m7 := F.called_set.init.bind (.ref s.heap.objs.size)
      repeat (any_goals (first | assumption | wp_step))
      refine codeAny_mono (codeAny_call_builtin (R := wants (fun r s2 => r = .none ∧ Filled w s ns s2) E) F.called_set.init.plain F.entry_set_init (check_set_init_1 hT ?_)) fun r2 s2 hr2 => ?_
      · obtain ⟨ol, hol, hcl, nl, hdl⟩ := hl
        obtain ⟨ocls, odict, odata, oslots⟩ := ol
        simp only at hcl hdl
        subst hcl
        subst hdl
        have hol' := Heap.get?_push_of_some (nul w) hol
        have q1 := F.sub_list_set
        have q2 := F.sub_list_frozenset
        have q3 : (Value.type "list" == Value.type "dict") = false := by decide
        have hl1 : (s.heap.push (nul w)).IsList l items := ⟨_, hol', rfl, nl, rfl⟩
        unfold Builtin.«set.__init__» noKeywords Builtin.Frozenset.updateFrom
        generalize hPI : pyIter = PI
        wp_walk
        subst hPI
        refine wpAny_pyIter_list hl1 ?_
        refine wpAny_bind (wpAny_runValue ?_)
        have hh3 : A.in1.in1.in1.handled = none := by simp [hh]
        have n1 : l ≠ (s.heap.push (nul w)).objs.size := by
          rw [Heap.size_push]
          exact Nat.ne_of_lt (Nat.lt_succ_of_lt hlt)
        have n2 : s.heap.objs.size ∉ [(s.heap.push (nul w)).objs.size, l] := by
          rw [Heap.size_push]
          simp only [List.mem_cons, List.not_mem_nil, or_false, not_or]
          exact ⟨Nat.ne_of_lt (Nat.lt_succ_self _), Nat.ne_of_gt hlt⟩
        have vals : ∀ (i : Nat) (v : Value), items[i]? = some v → ∃ k t, ns[i]? = some k ∧ v = .int k t := fun i v hv => by
          have hi : i < ns.length := by rw [← hisz]; exact (Array.getElem?_eq_some_iff.mp hv).1
          obtain ⟨t, e⟩ := PyProof.Rows.IntsAre.int_at hit i v (by rw [Array.getElem?_toList]; exact hv)
          exact ⟨ns[i], t, List.getElem?_eq_getElem hi, by rw [e, List.getD_eq_getElem?_getD, List.getElem?_eq_getElem hi]; rfl⟩
        refine set_update_ints ((Walks.list hh3 _ l n1 items).toS) s.heap.objs.size n2 ns hisz hb vals (items.size - 0) 0 _ (by omega) (Nat.zero_le _)
          ⟨⟨_, Heap.get?_push_size _ rfl, rfl, rfl⟩, (hl1.push _)⟩ ⟨0, Nat.le_refl 0, setR_new_at (Heap.get?_push_of_some _ hS)⟩ fun s' c' hm hc' hS' => ?_
        obtain ⟨h', g2, d', tk', os'⟩ := s'
        obtain rfl : g2 = s.gens := hm.gens
        obtain rfl : d' = s.drawn := hm.drawn
        obtain rfl : os' = s.os := hm.os
        show wpAny _ _ _ _ _ _
        refine wpAny_pure ?_
        show wpAny _ _ (ret Value.none) _ _ _
        rw [hisz] at hc'
        refine wpAny_pure ⟨rfl, h', tk', c', rfl, hS', hc', fun b o e => ?_⟩
        have b0 : b < s.heap.objs.size := Heap.lt_size e
        refine hm.heap b o ?_ (Heap.get?_push_of_some _ (Heap.get?_push_of_some _ e))
        rw [Heap.size_push]
        simp only [List.mem_cons, List.not_mem_nil, or_false, not_or]
        exact ⟨Nat.ne_of_lt b0, Nat.ne_of_lt (Nat.lt_succ_of_lt b0)⟩
      · cases r2 with
        | error e => exact hr2
        | ok fl2 =>
          cases fl2 with
          | next => exact hr2.elim
          | brk => exact hr2.elim
          | cont => exact hr2.elim
          | ret r =>
            obtain ⟨rfl, hf⟩ := hr2
            have hf2 := hf
            obtain ⟨h', tk, c, rfl, _⟩ := hf2
            repeat (any_goals (first | assumption | wp_step))
            exact h _ hf
end
section
variable {X : Cx} {K : PySem.W.Frag} {w : World}
/-- set(xs), xs a list of ints -/
def rSetLI (K : PySem.W.Frag) (w : World) : List V → Hp → VK → Prop := fun xs H Q => ∃ (l : Addr) (ns : List Int), xs = [V.ref l] ∧ SqL K H l (ns.map V.int) ∧ ns.length + 1 < scanBound ∧
  ∀ p c, H p = none → c ≤ ns.length → Q (.ref p) (upd H p (SetO w p (fun j => decide (j ∈ ns)) c))
theorem cr_setLI (h : X.K = K) (hw : X.w = w) (hc : X.calm = true) : CallR X (.type "set") (rSetLI K w) := by
  subst h
  subst hw
  intro pins s σ H xs us Q I r h
  obtain ⟨l, ns, rfl, hl, hb, q⟩ := h
  rw [Vals.ref1 r]
  obtain ⟨its, rv, pl, hz⟩ := I.list hl
  refine set_of_list (P := X.prog) (w := X.w) ns (I.ok.hd hc) pl.isList rv.ints hb fun s2 hf => ?_
  obtain ⟨h', tk, c, rfl, R, hcl, hk⟩ := hf
  exact ⟨.ref _, upd H s.heap.objs.size (SetO X.w s.heap.objs.size (fun j => decide (j ∈ ns)) c), I.laid (t' := tk) hk (Nat.le_refl _) (setO_new R), rfl, q _ c (I.hok.fresh (Nat.le_refl _)) hcl⟩
theorem cr_sortedSet' (hw : X.w = w) (hc : X.calm = true) : CallR X (.builtin "sorted") (rSortedSet w) := by
  subst hw
  exact cr_sortedSet hc
end
end Tz

namespace Bx
open PySem PySem.Spec PyProof.Rows L2
def mf (I O L : Int) (ot rt : Addr) : List (Str × V) := putF "rows" (.ref rt) (putF "opening" (.ref ot) (putF "lead" (.int L) (putF "outputs" (.int O) (putF "inputs" (.int I) []))))
theorem mf_I (I O L : Int) (a b : Addr) : (mf I O L a b).lookup ("inputs" : Str) = some (.int I) := by
  unfold mf
  rw [lookup_putF, if_neg (by decide +kernel), lookup_putF, if_neg (by decide +kernel), lookup_putF, if_neg (by decide +kernel), lookup_putF, if_neg (by decide +kernel), lookup_putF, if_pos rfl]
theorem mf_O (I O L : Int) (a b : Addr) : (mf I O L a b).lookup ("outputs" : Str) = some (.int O) := by
  unfold mf
  rw [lookup_putF, if_neg (by decide +kernel), lookup_putF, if_neg (by decide +kernel), lookup_putF, if_neg (by decide +kernel), lookup_putF, if_pos rfl]
theorem mf_L (I O L : Int) (a b : Addr) : (mf I O L a b).lookup ("lead" : Str) = some (.int L) := by
  unfold mf
  rw [lookup_putF, if_neg (by decide +kernel), lookup_putF, if_neg (by decide +kernel), lookup_putF, if_pos rfl]
theorem mf_o (I O L : Int) (a b : Addr) : (mf I O L a b).lookup ("opening" : Str) = some (.ref a) := by
  unfold mf
  rw [lookup_putF, if_neg (by decide +kernel), lookup_putF, if_pos rfl]
theorem mf_r (I O L : Int) (a b : Addr) : (mf I O L a b).lookup ("rows" : Str) = some (.ref b) := by
  unfold mf
  rw [lookup_putF, if_pos rfl]
structure MchC (K : PySem.W.Frag) (C : Addr) : Prop where
  cl : Cls K C
  nI : NoAttr K C "inputs"
  nO : NoAttr K C "outputs"
  nL : NoAttr K C "lead"
  no : NoAttr K C "opening"
  nr : NoAttr K C "rows"
/-- rows of pairs -/
structure RP (mk : List V → HO) (H : Hp) (as : List Addr) (c : List (List (Int × Int))) : Prop where
  len : as.length = c.length
  g : ∀ (i : Nat) (a : Addr), as[i]? = some a → ∃ (bs : List Addr) (row : List (Int × Int)), c[i]? = some row ∧ H a = some (mk (bs.map V.ref)) ∧ bs.length = row.length ∧ ∀ (j : Nat) (b : Addr), bs[j]? = some b → ∃ t l, row[j]? = some (t, l) ∧ H b = some (.tup [.int t, .int l])
theorem RP.same {mk : List V → HO} {H H' : Hp} {as : List Addr} {c : List (List (Int × Int))} (s : Same H H') (h : RP mk H as c) : RP mk H' as c := ⟨h.len, fun i a e => by
  obtain ⟨bs, row, h1, h2, h3, h4⟩ := h.g i a e
  exact ⟨bs, row, h1, s _ _ h2, h3, fun j b hb => by obtain ⟨t, l, h5, h6⟩ := h4 j b hb; exact ⟨t, l, h5, s _ _ h6⟩⟩⟩
def LPr (H : Hp) (r : Addr) (as : List Addr) (c : List (List (Int × Int))) : Prop := H r = some (.lst (as.map V.ref)) ∧ RP .lst H as c
theorem LPr.same {H H' : Hp} {r : Addr} {as : List Addr} {c : List (List (Int × Int))} (s : Same H H') (h : LPr H r as c) : LPr H' r as c := ⟨s _ _ h.1, h.2.same s⟩
def MchAt (C : Addr) (H : Hp) (x : Addr) (I O L : Int) (op : List Int) (c : List (List (Int × Int))) : Prop := ∃ (dx ot rt : Addr) (as : List Addr), H x = some (.ins C dx (mf I O L ot rt)) ∧ TupI H ot op ∧ H rt = some (.tup (as.map V.ref)) ∧ RP .tup H as c
theorem mch_same {C : Addr} {H H' : Hp} {x : Addr} {I O L : Int} {op : List Int} {c : List (List (Int × Int))} (s : Same H H') (h : MchAt C H x I O L op c) : MchAt C H' x I O L op c := by
  obtain ⟨dx, ot, rt, as, e1, e2, e3, e4⟩ := h
  exact ⟨dx, ot, rt, as, s _ _ e1, s _ _ e2, s _ _ e3, e4.same s⟩
/-- objects that are no lists stay where only lists change -/
theorem RP.keepT {H H' : Hp} {as : List Addr} {c : List (List (Int × Int))} (k : ∀ b xs, H b = some (.tup xs) → H' b = some (.tup xs)) (h : RP .tup H as c) : RP .tup H' as c := ⟨h.len, fun i a e => by
  obtain ⟨bs, row, h1, h2, h3, h4⟩ := h.g i a e
  exact ⟨bs, row, h1, k _ _ h2, h3, fun j b hb => by obtain ⟨t, l, h5, h6⟩ := h4 j b hb; exact ⟨t, l, h5, k _ _ h6⟩⟩⟩
/-- what holds of a machine -/
structure Vm (I O L : Int) (op : List Int) (c : List (List (Int × Int))) : Prop where
  i1 : 1 ≤ I
  o1 : 1 ≤ O
  l0 : -3 ≤ L
  l1 : L ≤ 2
  op_len : (op.length : Int) = max 0 (-L)
  ne : c ≠ []
  w : ∀ r ∈ c, (r.length : Int) = I
  st : ∀ r ∈ c, ∀ p ∈ r, 0 ≤ p.1 ∧ p.1 < (c.length : Int)
  op_in : ∀ z ∈ op, 0 ≤ z ∧ z < O
  em : ∀ r ∈ c, ∀ p ∈ r, 0 ≤ p.2 ∧ p.2 < O
end Bx
/-! own rule: a tuple times 1 is that tuple -/
namespace Bx
open PySem PySem.Spec PyProof.Rows L2
theorem mul_one (l : Addr) (items : Array Value) (n : Nat) (dd : Option Addr) (sl : Array (Option Value)) (u : Tok) :
    Meets (Builtin.«tuple.__mul__» ⟨[.ref l, .int 1 u], []⟩) (fun _ R s => s.heap.get? l = some { cls := .type "tuple", dict := dd, data := .seq items n, slots := sl } ∧ R (.ok (.ret (.ref l))) s) := .of_wp fun prog w A R s h => by
  obtain ⟨hp, g, d, tk, os⟩ := s
  obtain ⟨hl, h⟩ := h
  have q1 := AutoSeq1.idx_int
  wp_walk using AutoSeq1.wpAny_loadPart' hl
  repeat (first
    | (refine wpAny_ite_true (decide_eq_true (by simp)) ?_; wp_walk using AutoSeq1.wpAny_loadPart' hl)
    | (refine wpAny_ite_false (decide_eq_false (by simp)) ?_; wp_walk using AutoSeq1.wpAny_loadPart' hl))
  exact ⟨_, rfl, h⟩
def rRep1 (K : PySem.W.Frag) : R2 := fun x y H Q => ∃ l k xs, x = .ref l ∧ y = .int k ∧ SqT K H l xs ∧ xs ≠ [] ∧ 1 ≤ k ∧ k ≤ 1000 ∧ xs.length ≤ 1000 ∧ (k = 1 → Q (.ref l) H) ∧ (2 ≤ k → ∀ p, H p = none → Q (.ref p) (upd H p (.tup (List.replicate k.toNat xs).flatten)))
theorem op_rep1K {X : Cx} {K : PySem.W.Frag} (h : X.K = K) : OpR X (binaryOp .Mult) (rRep1 K) := by
  subst h
  intro pins s σ H x y v u Q I rx ry h
  obtain ⟨l, k, xs, ex, ey, hT, hne, h1, h2, hz, q1, q2⟩ := h
  by_cases c : k = 1
  · subst c
    subst ex
    subst ey
    cases rx
    obtain ⟨t, rfl⟩ := ry
    obtain ⟨its, r, ⟨⟨cls, dd, data, sl⟩, ho, hc, n, hd⟩, _⟩ := I.tuple hT
    simp only at hc hd
    subst hc hd
    refine wpAny_binaryOp_repeat_ref (T := "tuple") (U := "int") (by decide) ⟨_, ho, rfl⟩ (fun s' => typeIs_int s' 1 t) noFill_tuple_mul F.fills_int_mul F.slot_int_rmul repeat_tuple F.slot_int_index.lookup
      (call_meets F.slot_int_rmul (typeIs_int s 1 t) F.entry_int_rmul (F.args_int_rmul_2 _ _) (int_rmul_tuple 1 t l its.toArray n dd sl)
        ⟨ho, rfl, ⟨_, ho, rfl⟩, call_meets F.slot_tuple_mul ⟨_, ho, rfl⟩ F.entry_tuple_mul (F.args_tuple_mul_2 _ _) (mul_one l its.toArray n dd sl t) ⟨ho, ?_⟩⟩)
    exact ⟨.ref l, H, I, rfl, q1 rfl⟩
  · exact op_repT pins s σ H x y v u Q I rx ry ⟨l, k, xs, ex, ey, hT, hne, by omega, h2, hz, q2 (by omega)⟩
end Bx
namespace Bx
open PySem PySem.Spec PyProof.Rows L2
section
variable {X : Cx} {K : PySem.W.Frag}
theorem pe_revLK {e : Expr} {te : TE} {k : Nat} {p1 p2 p3 pos : Pos} (h : X.K = K) (he : PE X e te) : PE X (.Subscript e (.Slice none none (some (.UnaryOp .USub (.Constant (.int 1) k p1) p2)) p3) pos) (tRevL K te) := by
  subst h
  exact pe_revL he
end
section
variable {X : Cx} {k : Nat} {C f : Addr} {fd : FuncData} {ps : List Str} {sp : Sp} {W : WX} {m fl : Str} {p pos apos : Pos} {e o : Expr} {es : List Expr} {ta : TE} {t : TA}
/-- o.f as a target -/
def gFld (K : PySem.W.Frag) (to : TE) (f : Str) : TG := fun v σ H Q => to σ H fun x H2 => ∃ a C dx fs, x = .ref a ∧ H2 a = some (.ins C dx fs) ∧ Cls K C ∧ NoAttr K C f ∧ fs.length < 1000 ∧ Q σ (upd H2 a (.ins C dx (putF f v fs)))
theorem pg_fld (ho : PE X o ta) (ha : ∀ v, assign (.Attribute o fl pos) X.env v = (do
      let ov ← holding [v] (eval o X.env)
      standAt pos.atName
      holding [v, ov] (setAttr ov fl v)
      release [v, ov] []) := by intro _; rfl) : PG X (.Attribute o fl pos) (gFld X.K ta fl) := by
  refine ⟨fun pins s σ H v u Q I r h => ?_⟩
  rw [ha]
  refine wpAny_bind (wpAny_holding (thn (ho.run pins s σ H _ I h) fun ov s1 ⟨x, H1, I1, r1, a, C, dx, fs, ex, ea, c, n, l, q⟩ => ?_))
  subst ex
  obtain rfl : ov = Value.ref a := r1
  refine wpAny_bind (wpAny_standAt (wpAny_bind (wpAny_holding (setattr_ok I1 ea c n l r fun s3 I3 => ?_))))
  exact wpAny_release ⟨σ, _, I3, q⟩
/-- o.m(e) where the method may raise, in a try -/
def tMethX (C : Addr) (m : Str) (sp : Sp) (E : L2.St → XK) (ta : TE) (t : TA) : TE := fun σ H Q => ta σ H fun x H1 => ∃ a dx fs, x = .ref a ∧ H1 a = some (.ins C dx fs) ∧ fs.lookup m = none ∧ t σ H1 fun vs H2 => sp (x :: vs) H2 Q (E σ)
theorem pe_methX {pl : Sem Bool} (he : PE X o ta) (c : Cls X.K C) (hm : Meth X.K C m f) (F : FnOk X.prog X.w X.K X.mg X.base (L2.CX X.prog X.w) k f fd ps sp) (hr : Room k X.A) (hb : Binds X.K fd ps []) (tk : Takes X W) (ha : PA X (e :: es) t)
    (hst : starEach (e :: es) X.env = (false, eval e X.env) :: starEach es X.env := by rfl) (hpl : (backTo pos (starEach es X.env)).any (·.1) = false := by rfl)
    (ht : eval (.Call (.Attribute o m apos) (e :: es) [] pos) X.env = (do
      let ov ← eval o X.env
      standAt apos.atName
      let (f, first) ← holding [ov] (getMethod ov m pl)
      callWith pos f first (backTo pos (starEach (e :: es) X.env)) (backToKw pos (keywordEach [] X.env))) := by rfl) :
    PE X (.Call (.Attribute o m apos) (e :: es) [] pos) (tMethX C m sp (WE W) ta t) := by
  refine ⟨fun pins s σ H Q I h => ?_⟩
  refine PySem.W.methodCall_KW (pl := pl) (thn (he.run pins s σ H _ I h) fun u s1 ⟨x, H1, I1, rx, a, dx, fs, ex, ea, l, q⟩ => ?_) ht
  subst ex
  obtain rfl : u = Value.ref a := rx
  refine getmeth_ok I1 ea c hm l ?_
  refine PySem.W.callWith_K (first := [.ref a]) (h₀ := X.base) I.ok.mod.kin hm.kp (thn (ha.run pos pins s1 σ H1 _ I1 q) fun us s2 ⟨vs, H2, I2, r, q2⟩ => ⟨I2.kIn, ?_⟩) hst hpl
  exact run_fnS (us := .ref a :: us) (vs := .ref a :: vs) F hr hb (passAt tk σ) I2 (.cons rfl r) q2
end
/-- a journal's attributes -/
def jf (ma : Addr) (sp : Int) (tx : Str) (st tu : Int) (an : Addr) : List (Str × V) := [("machine", .ref ma), ("spacing", .int sp), ("text", .str tx), ("state", .int st), ("turns", .int tu), ("answers", .ref an)]
theorem jf_text (ma sp tx st tu an t') : putF "text" (.str t') (jf ma sp tx st tu an) = jf ma sp t' st tu an := by rfl
theorem jf_state (ma sp tx st tu an t') : putF "state" (.int t') (jf ma sp tx st tu an) = jf ma sp tx t' tu an := by rfl
theorem jf_turns (ma sp tx st tu an t') : putF "turns" (.int t') (jf ma sp tx st tu an) = jf ma sp tx st t' an := by rfl
theorem jl_m (ma sp tx st tu an) : (jf ma sp tx st tu an).lookup ("machine" : Str) = some (V.ref ma) := by rfl
theorem jl_sp (ma sp tx st tu an) : (jf ma sp tx st tu an).lookup ("spacing" : Str) = some (V.int sp) := by rfl
theorem jl_tx (ma sp tx st tu an) : (jf ma sp tx st tu an).lookup ("text" : Str) = some (V.str tx) := by rfl
theorem jl_st (ma sp tx st tu an) : (jf ma sp tx st tu an).lookup ("state" : Str) = some (V.int st) := by rfl
theorem jl_tu (ma sp tx st tu an) : (jf ma sp tx st tu an).lookup ("turns" : Str) = some (V.int tu) := by rfl
theorem jl_an (ma sp tx st tu an) : (jf ma sp tx st tu an).lookup ("answers" : Str) = some (V.ref an) := by rfl
theorem jl_hear (ma sp tx st tu an) : (jf ma sp tx st tu an).lookup ("hear" : Str) = none := by rfl
theorem jf_new (ma : Addr) (sp : Int) (tx : Str) (an : Addr) : putF "answers" (.ref an) (putF "turns" (.int 0) (putF "state" (.int 0) (putF "text" (.str tx) (putF "spacing" (.int sp) (putF "machine" (.ref ma) []))))) = jf ma sp tx 0 0 an := by rfl
structure JrnC (K : PySem.W.Frag) (C : Addr) : Prop where
  cl : Cls K C
  nm : NoAttr K C "machine"
  nsp : NoAttr K C "spacing"
  ntx : NoAttr K C "text"
  nst : NoAttr K C "state"
  ntu : NoAttr K C "turns"
  nan : NoAttr K C "answers"
/-- all but some objects stay -/
def Kpl (l : List Addr) (H H' : Hp) : Prop := ∀ b o, b ∉ l → H b = some o → H' b = some o
theorem Kpl.refl (l : List Addr) (H : Hp) : Kpl l H H := fun _ _ _ h => h
theorem Kpl.trans {l : List Addr} {H H1 H2 : Hp} (a : Kpl l H H1) (b : Kpl l H1 H2) : Kpl l H H2 := fun x o n h => b _ _ n (a _ _ n h)
theorem Kpl.same {l : List Addr} {H H1 : Hp} (s : Same H H1) : Kpl l H H1 := fun x o _ h => s _ _ h
theorem Kpl.own {l : List Addr} {H : Hp} {a : Addr} {o : HO} (h : a ∈ l) : Kpl l H (upd H a o) := fun x o' n hx => by rw [upd_ne (fun z => n (by rw [z]; exact h))]; exact hx
theorem Kpl.more {l l' : List Addr} {H H1 : Hp} (k : Kpl l H H1) (h : ∀ a ∈ l, a ∈ l') : Kpl l' H H1 := fun x o n hx => k _ _ (fun z => n (h _ z)) hx
theorem sat {H H' : Hp} {a : Addr} {o : HO} (s : Same H H') (h : H a = some o) : H' a = some o := s _ _ h
end Bx
namespace Dm
open PySem PySem.Builtin TL
def pad (k : Nat) (l : List Nat) : List Nat := List.replicate (k - l.length) 48 ++ l
theorem pad_snoc (k : Nat) (l : List Nat) (c : Nat) : pad (k + 1) (l ++ [c]) = pad k l ++ [c] := by
  unfold pad
  rw [List.length_append, show k + 1 - (l.length + [c].length) = k - l.length by simp only [List.length_singleton]; omega, List.append_assoc]
theorem numL_pad : ∀ (k q r : Nat), 1 ≤ q → r < 10 ^ (k + 1) → numL (q * 10 ^ (k + 1) + r) = numL q ++ pad (k + 1) (numL r)
  | 0, q, r, hq, hr => by
    have hr : r < 10 := by simpa using hr
    rw [numL_step (by omega), show (q * 10 ^ (0 + 1) + r) / 10 = q by omega, show (q * 10 ^ (0 + 1) + r) % 10 = r by omega, numL_lt hr]
    rfl
  | k + 1, q, r, hq, hr => by
    have e1 : q * 10 ^ (k + 1 + 1) + r = (q * 10 ^ (k + 1)) * 10 + r := by rw [Nat.pow_succ 10 (k + 1), Nat.mul_assoc]
    have hp : 1 ≤ 10 ^ (k + 1) := Nat.one_le_iff_ne_zero.mpr (Nat.pos_iff_ne_zero.mp (Nat.pow_pos (by decide)))
    have hq1 : 1 ≤ q * 10 ^ (k + 1) := Nat.mul_le_mul hq hp
    have hr2 : r / 10 < 10 ^ (k + 1) := by
      rw [Nat.pow_succ 10 (k + 1)] at hr
      omega
    rw [e1, numL_step (by omega), show ((q * 10 ^ (k + 1)) * 10 + r) / 10 = q * 10 ^ (k + 1) + r / 10 by omega, show ((q * 10 ^ (k + 1)) * 10 + r) % 10 = r % 10 by omega, numL_pad k q (r / 10) hq hr2]
    by_cases h : r < 10
    · rw [numL_lt h, show r / 10 = 0 by omega, show r % 10 = r by omega, numL_lt (by decide : (0 : Nat) < 10)]
      unfold pad
      simp only [List.length_singleton]
      rw [show k + 1 + 1 - 1 = (k + 1 - 1) + 1 by omega, List.replicate_succ', List.append_assoc, List.append_assoc]
    · rw [numL_step (show 10 ≤ r by omega), pad_snoc, List.append_assoc]
theorem zf {r : Nat} (hr : r < 10 ^ 18) : tl (Txt.zfill (Str.ofString (toString ((r : Nat) : Int))) 18) = pad 18 (numL r) := by
  have hl : (Str.ofString (toString ((r : Nat) : Int))).length = (numL r).length := by rw [len_tl, tl_num]
  have hle := numL_len (by decide : 0 < 18) hr
  unfold Txt.zfill
  rw [hl]
  by_cases h : (18 : Int) ≤ ((numL r).length : Nat)
  · rw [if_pos h, tl_num]
    unfold pad
    rw [show 18 - (numL r).length = 0 by omega]
    rfl
  · rw [if_neg h]
    have hz : ∀ (x : Str) (m : Nat), (∀ c, x.cps[0]? = some c → 48 ≤ c) → tl (zfilled x m) = List.replicate m 48 ++ tl x := by
      intro x m hc
      unfold zfilled
      have hp : tl (Builtin.Str.padded x m 0 48) = List.replicate m 48 ++ tl x := by
        unfold Builtin.Str.padded
        show (Array.replicate m 48 ++ x.cps ++ Array.replicate 0 48).toList = _
        simp [tl]
      split
      · rename_i e; have := hc _ e; omega
      · rename_i e; have := hc _ e; omega
      · exact hp
    rw [hz, tl_num]
    · unfold pad
      rw [show (18 : Int).toNat - (numL r).length = 18 - (numL r).length from rfl]
    · intro c hc
      have : c ∈ numL r := by
        rw [← tl_num]
        have := Array.getElem?_eq_some_iff.mp hc
        obtain ⟨h1, h2⟩ := this
        exact Array.mem_toList_iff.mpr (by rw [← h2]; exact Array.getElem_mem h1)
      exact (numL_digits r c this).1
end Dm
namespace Bx
open PySem PySem.Spec PyProof.Rows L2
/-- for c in text -/
theorem for_str {x : Str} {g : TG} {tb : TS} {D : Ends} {σ : L2.St} {H : Hp} (Pv : Nat → L2.St → Hp → Prop) (h0 : Pv 0 σ H)
    (hs : ∀ i c σ H, x.cps[i]? = some c → Pv i σ H → g (.str ⟨#[c]⟩) σ H fun σ2 H2 => tb { D with nx := Pv (i + 1), ct := Pv (i + 1), bk := D.nx } σ2 H2) (hd : ∀ σ H, Pv x.cps.size σ H → D.nx σ H) :
    ∃ W : Nat → Nat → L2.St → Hp → Prop, (∃ m, W 0 m σ H) ∧ ∀ i m σ H, W i m σ H →
      ((Its x).stop i H ∧ D.nx σ H) ∨ ((Its x).go i H ∧ ∃ N : L2.St → Hp → Prop, (∀ σ' H', N σ' H' → ∃ m', m' < m ∧ W (i + 1) m' σ' H') ∧ ∀ v H', (Its x).yld i H v H' → g v σ H' fun σ2 H2 => tb { D with nx := N, ct := N, bk := D.nx } σ2 H2) := by
  refine ⟨fun i m σ H => m = x.cps.size - i ∧ i ≤ x.cps.size ∧ Pv i σ H, ⟨x.cps.size, by simp, Nat.zero_le _, h0⟩, ?_⟩
  rintro i m σ H ⟨rfl, hi, p⟩
  by_cases hlt : i < x.cps.size
  · refine .inr ⟨hlt, Pv (i + 1), fun σ' H' p' => ⟨x.cps.size - (i + 1), by omega, rfl, hlt, p'⟩, fun v H' y => ?_⟩
    obtain ⟨e, c, hc, rfl⟩ := y
    subst e
    exact hs i c σ _ hc p
  · have e : i = x.cps.size := by omega
    subst e
    exact .inl ⟨Nat.le_refl _, hd _ _ p⟩
end Bx
namespace Bx
open PySem PySem.Spec PyProof.Rows L2
/-- {k: v}, k a tuple of numbers and texts -/
def dispQ (p : Addr) (Q : VK) : List (V × V) → Hp → Prop
  | [(y, z)], H2 => ∃ (b : Addr) (ks : List L2.Key), y = .ref b ∧ H2 b = some (.tup (ks.map kV)) ∧ H2 p = some (.dT []) ∧ Q (.ref p) (upd H2 p (.dT [(ks, z)]))
  | _, _ => False
def tDispT (tk tv : TE) : TE := fun σ H Q => ∀ p, H p = none → tk σ (upd H p (.dT [])) fun y H1 => tv σ H1 fun z H2 => dispQ p Q [(y, z)] H2
theorem pe_dispT {X : Cx} {pos : Pos} {k v : Expr} {tk tv : TE} (hu : X.A.units + 1 < cLine) (hk : PE X k tk) (hv : PE X v tv) : PE X (.Dict [some k] [v] pos) (tDispT tk tv) := by
  refine ⟨fun pins s σ H Q I h => ?_⟩
  refine wpAny_Dict_any rfl rfl (by simp) (by show 1 ≤ 15; decide) ?_
  have hf : H s.heap.objs.size = none := I.hok.fresh (Nat.le_refl _)
  have h1 := h s.heap.objs.size hf
  have I1 : Inv X pins σ (upd H s.heap.objs.size (.dT [])) { heap := s.heap.push { cls := .type "dict", data := .dict #[] }, gens := s.gens, drawn := s.drawn, toks := s.toks, os := s.os } := by
    refine I.laid (t' := s.toks) (fun b o hb => ?_) (Nat.le_refl _) (dt_empty s.heap ?_)
    · exact Heap.get?_push_of_some _ hb
    · exact I.big
  refine wpAny_mono ((pps_cons hk hv pps_nil).run pins _ σ _ (dispQ s.heap.objs.size Q) I1 h1) (fun vs s1 hq => ?_) (fun _ _ z => z)
  obtain ⟨ps, H2, I2, rv, hq⟩ := hq
  match ps, rv, hq with
  | [(y, z)], rv, ⟨b, ks, e, eb, ed, q⟩ =>
    subst e
    obtain ⟨_, hsm, xs, kt, D⟩ := dt_of I2.hok ed
    cases kt
    cases rv with
    | cons r0 rt =>
      rename_i u0 us0
      cases rt
      obtain ⟨u, r⟩ := u0
      obtain ⟨ra, rb⟩ := r0
      cases ra
      unfold storeAll
      simp only [List.forIn_cons, List.forIn_nil]
      refine wpAny_bind (wpAny_bind (wpAny_dictSet_heap (knd := tupleKind (mixKind X.prog X.w)) (Nat.lt_of_le_of_lt (Nat.le_succ _) hu) (key_of I2.hok eb) D (fun h' D' sb => ?_) (by show 0 ≤ sizeLine; exact Nat.zero_le _)))
      refine wpAny_pure ?_
      refine wpAny_pure ?_
      refine ⟨.ref s.heap.objs.size, upd H2 s.heap.objs.size (.dT [(ks, z)]), ?_, rfl, q⟩
      refine d_write I2 (by rw [ed]; exact True.intro) sb ?_ ?_
      · obtain ⟨o, es, ep, g, _⟩ := D'
        exact ⟨o, g⟩
      · have nb : b ≠ s.heap.objs.size := fun e => by rw [e, ed] at eb; cases eb
        refine ⟨by show 1 ≤ sizeLine; decide, hsm, [(ks, b, r)], .cons ⟨rfl, by rw [upd_ne nb]; exact eb, rb⟩ .nil, ?_⟩
        obtain ⟨o, es, ep, g1, g2, g3, g4, _, g5⟩ := D'
        exact ⟨o, es, ep, g1, g2, g3, g4, g5⟩
theorem op_notInDK {X : Cx} {K : PySem.W.Frag} (h : X.K = K) (hu : X.A.units + 65 < cLine) : OpR X (compareOp .NotIn) (rNotInD K) := by
  subst h
  exact op_notInD hu
end Bx
local macro_rules | `(tactic| walk_at "hl") => `(tactic| first | assumption | exact L2.upd_same | (refine Bx.sat (by assumption) ?_; walk_at "hl"))
local macro_rules | `(tactic| walk_at "bx") => `(tactic| repeat (first
  | refine ⟨_, rfl, ?_⟩
  | refine ⟨_, _, rfl, rfl, ?_⟩
  | refine ⟨rfl, ?_⟩
  | refine Or.inl ⟨_, rfl, ?_⟩
  | refine ⟨Or.inr ⟨by decide, by decide⟩, ?_⟩
  | refine ⟨Or.inl ⟨by decide, by decide⟩, ?_⟩
  | refine ⟨(show (0 : Int) < _ by decide), ?_⟩
  | refine ⟨⟨by decide, by decide⟩, ?_⟩
  | refine ⟨_, _, rfl, Or.inl (L2.SqL.of (by walk_at "hl")), ?_⟩
  | refine ⟨_, _, rfl, Or.inr (L2.SqT.of (by walk_at "hl")), ?_⟩
  | refine ⟨Or.inl ⟨rfl, _, L2.SqL.of (by walk_at "hl")⟩, ?_⟩
  | refine ⟨_, _, _, rfl, rfl, (by walk_at "hl"), ?_⟩
  | refine ⟨_, _, rfl, rfl, (by walk_at "hl"), ?_⟩
  | refine ⟨_, _, _, _, rfl, rfl, L2.SqT.of (by walk_at "hl"), (by walk_at "hl"), ?_⟩
  | refine ⟨_, _, _, _, rfl, rfl, L2.SqL.of (by walk_at "hl"), (by walk_at "hl"), ?_⟩
  | refine ⟨_, _, rfl, Bx.SeqI.sq (by walk_at "hl"), ?_⟩
  | refine And.intro (by walk_at "hl") ?_))
local macro_rules | `(tactic| walk_at "nl") => `(tactic| ((try unfold L2.tNil); (try unfold L2.tNoPart)))

namespace My
open PySem PySem.Spec PyProof.Rows L2 Bx TL
def topS (i : Nat) : Stmt := PySem.Challenge.pw_reactivesynth_k42_separating_word.main.body.getD i (.Pass ⟨0, 0, 0, 0⟩)
abbrev s_check_rows : Stmt := topS 9
abbrev N_check_rows : List Str := ["rows", "inputs", "row", "target", "_"]
theorem sc_check_rows : FnScope N_check_rows ["rows", "inputs"] (defScope s_check_rows) := ⟨rfl, rfl, rfl, by decide +kernel, rfl, by decide +kernel, by decide +kernel⟩
abbrev s_check_said : Stmt := topS 10
abbrev N_check_said : List Str := ["letters", "outputs", "letter"]
theorem sc_check_said : FnScope N_check_said ["letters", "outputs"] (defScope s_check_said) := ⟨rfl, rfl, rfl, by decide +kernel, rfl, by decide +kernel, by decide +kernel⟩
abbrev s_run : Stmt := topS 11
abbrev N_run : List Str := ["machine", "state", "heard", "emitted", "letter", "said"]
theorem sc_run : FnScope N_run ["machine", "state", "heard"] (defScope s_run) := ⟨rfl, rfl, rfl, by decide +kernel, rfl, by decide +kernel, by decide +kernel⟩
abbrev s_separating_word : Stmt := topS 13
abbrev N_separating_word : List Str := ["first", "second", "words", "waiting", "at", "one", "two", "word", "letter", "target", "said", "other_target", "other_said"]
theorem sc_separating_word : FnScope N_separating_word ["first", "second"] (defScope s_separating_word) := ⟨rfl, rfl, rfl, by decide +kernel, rfl, by decide +kernel, by decide +kernel⟩
abbrev s_law_draws : Stmt := topS 15
abbrev N_law_draws : List Str := ["script", "count", "cells", "found", "mixed", "k", "j", "cell", "again"]
theorem sc_law_draws : FnScope N_law_draws ["script", "count"] (defScope s_law_draws) := ⟨rfl, rfl, rfl, by decide +kernel, rfl, by decide +kernel, by decide +kernel⟩
abbrev s_law_take : Stmt := topS 16
abbrev N_law_take : List Str := ["draws", "limit"]
theorem sc_law_take : FnScope N_law_take ["draws", "limit"] (defScope s_law_take) := ⟨rfl, rfl, rfl, by decide +kernel, rfl, by decide +kernel, by decide +kernel⟩
abbrev s_law_flat : Stmt := topS 17
abbrev N_law_flat : List Str := ["rows", "row"]
theorem sc_law_flat : FnScope N_law_flat ["rows"] (defScope s_law_flat) := ⟨rfl, rfl, rfl, by decide +kernel, rfl, by decide +kernel, by decide +kernel⟩
abbrev s_law_machine : Stmt := topS 18
abbrev N_law_machine : List Str := ["draws", "inputs", "outputs", "lead", "most", "count", "opening", "rows", "state", "row", "letter", "target", "k"]
theorem sc_law_machine : FnScope N_law_machine ["draws", "inputs", "outputs", "lead", "most"] (defScope s_law_machine) := ⟨rfl, rfl, rfl, by decide +kernel, rfl, by decide +kernel, by decide +kernel⟩
abbrev s_law_outcome : Stmt := topS 19
abbrev N_law_outcome : List Str := ["one", "two"]
theorem sc_law_outcome : FnScope N_law_outcome ["one", "two"] (defScope s_law_outcome) := ⟨rfl, rfl, rfl, by decide +kernel, rfl, by decide +kernel, by decide +kernel⟩
abbrev s_law_expected : Stmt := topS 20
abbrev N_law_expected : List Str := ["first", "second", "words", "seen", "turn", "longer", "word", "letter", "one", "two"]
theorem sc_law_expected : FnScope N_law_expected ["first", "second"] (defScope s_law_expected) := ⟨rfl, rfl, rfl, by decide +kernel, rfl, by decide +kernel, by decide +kernel⟩
abbrev s_law : Stmt := topS 21
abbrev N_law : List Str := ["script", "draws", "inputs", "outputs", "lead", "opening", "rows", "sizes", "other", "kind", "drawn", "row", "first", "double", "k", "one", "two", "found", "expected", "pair"]
theorem sc_law : FnScope N_law ["script"] (defScope s_law) := ⟨rfl, rfl, rfl, by decide +kernel, rfl, by decide +kernel, by decide +kernel⟩
abbrev s_Machine_init : Stmt := inClass (topS 8) 0
abbrev N_Machine_init : List Str := ["self", "inputs", "outputs", "lead", "opening", "rows", "row", "_", "letter", "target"]
theorem sc_Machine_init : FnScope N_Machine_init ["self", "inputs", "outputs", "lead", "opening", "rows"] (defScope s_Machine_init) := ⟨rfl, rfl, rfl, by decide +kernel, rfl, by decide +kernel, by decide +kernel⟩
abbrev s_Machine_call : Stmt := inClass (topS 8) 1
abbrev N_Machine_call : List Str := ["self", "heard", "letter", "said", "_", "emitted"]
theorem sc_Machine_call : FnScope N_Machine_call ["self", "heard"] (defScope s_Machine_call) := ⟨rfl, rfl, rfl, by decide +kernel, rfl, by decide +kernel, by decide +kernel⟩
structure Has (K : PySem.W.Frag) (mg : Str → Option Value) (x : Str) (st : Stmt) (ps : List Str) : Prop where
  ex : ∃ (f : Addr) (fd : FuncData), L2.Fun K x x st f fd ∧ mg x = some (.ref f) ∧ Binds K fd ps []
structure Txt (K : PySem.W.Frag) (mg : Str → Option Value) : Prop where
  h_check_rows : Has K mg "check_rows" s_check_rows ["rows", "inputs"]
  h_check_said : Has K mg "check_said" s_check_said ["letters", "outputs"]
  h_run : Has K mg "run" s_run ["machine", "state", "heard"]
  h_separating_word : Has K mg "separating_word" s_separating_word ["first", "second"]
  h_law_draws : Has K mg "_law_draws" s_law_draws ["script", "count"]
  h_law_take : Has K mg "_law_take" s_law_take ["draws", "limit"]
  h_law_flat : Has K mg "_law_flat" s_law_flat ["rows"]
  h_law_machine : Has K mg "_law_machine" s_law_machine ["draws", "inputs", "outputs", "lead", "most"]
  h_law_outcome : Has K mg "_law_outcome" s_law_outcome ["one", "two"]
  h_law_expected : Has K mg "_law_expected" s_law_expected ["first", "second"]
  z_int : mg "int" = none
  z_isinstance : mg "isinstance" = none
  z_len : mg "len" = none
  z_list : mg "list" = none
  z_max : mg "max" = none
  z_range : mg "range" = none
  z_tuple : mg "tuple" = none
  er : ∃ (cX cI cL C fI fC : Addr) (fdI fdC : FuncData) (tk1 tk2 : Tok), ErrC K mg "InvalidMachine" cI ∧ ErrC K mg "InvalidLetter" cL ∧ MchC K C ∧ Mk K C fI ∧ mg "Machine" = some (.ref C) ∧ L2.Fun K "__init__" "Machine.__init__" s_Machine_init fI fdI ∧ Binds K fdI ["self", "inputs", "outputs", "lead", "opening", "rows"] [] ∧ StX.CallO K C fC ∧ L2.Fun K "__call__" "Machine.__call__" s_Machine_call fC fdC ∧ Binds K fdC ["self", "heard"] [] ∧ mg "LEAST_LEAD" = some (.int (-3) tk1) ∧ mg "GREATEST_LEAD" = some (.int 2 tk2) ∧ ErrC K mg "Mismatch" cX

-- BODY
def spLaw (K : PySem.W.Frag) : Sp := fun vs H Q _ => ∃ (a : Addr) (ns : List Int), vs = [.ref a] ∧ SqL K H a (ns.map V.int) ∧ ns.length ≤ 63 ∧ ∀ H', Q (.bl true) H'
section
variable {P : Program} {w : World} {K : PySem.W.Frag} {mg : Str → Option Value} {base : Heap}
theorem units65 {k : Nat} {A : Around} (h : Room k A) : A.units + 65 < cLine := by
  have := h.un
  omega
abbrev Q3 := (Int × Int) × List Int
def cellZ (c : List (List (Int × Int))) (s l : Int) : Int × Int := (c.getD s.toNat []).getD l.toNat (0, 0)
def stepL (A B : List (List (Int × Int))) (e : Q3) (W : List Q3) (l : Nat) : Sum (List Int) (List Q3) :=
  if (cellZ A e.1.1 l).2 ≠ (cellZ B e.1.2 l).2 then .inl (e.2 ++ [(l : Int)])
  else if ((cellZ A e.1.1 l).1, (cellZ B e.1.2 l).1) ∈ W.map (·.1) then .inr W
  else .inr (W ++ [(((cellZ A e.1.1 l).1, (cellZ B e.1.2 l).1), e.2 ++ [(l : Int)])])
def lets (A B : List (List (Int × Int))) (e : Q3) (W : List Q3) : Nat → Sum (List Int) (List Q3)
  | 0 => .inr W
  | n + 1 => match lets A B e W n with
    | .inl r => .inl r
    | .inr W' => stepL A B e W' n
def gST : Sum (List Int) (List Q3) := .inr [((0, 0), [])]
def GG (A B : List (List (Int × Int))) (I : Nat) : Nat → Sum (List Int) (List Q3)
  | 0 => gST
  | k + 1 => match GG A B I k with
    | .inl r => .inl r
    | .inr W => match W[k]? with
      | none => .inr W
      | some e => lets A B e W I
def Res (A B : List (List (Int × Int))) (I : Nat) (r : Option (List Int)) : Prop := ∃ k, (∃ x, r = some x ∧ GG A B I k = .inl x) ∨ (r = none ∧ ∃ W, GG A B I k = .inr W ∧ W.length ≤ k)
theorem gg_inl {A B : List (List (Int × Int))} {I k : Nat} {x : List Int} (h : GG A B I k = .inl x) : GG A B I (k + 1) = .inl x := by rw [GG, h]
theorem gg_inr {A B : List (List (Int × Int))} {I k : Nat} {W : List Q3} (h : GG A B I k = .inr W) {e : Q3} (he : W[k]? = some e) : GG A B I (k + 1) = lets A B e W I := by rw [GG, h]; show (match W[k]? with | none => _ | some e => _) = _; rw [he]
theorem gg_end {A B : List (List (Int × Int))} {I k : Nat} {W : List Q3} (h : GG A B I k = .inr W) (hl : W.length ≤ k) : GG A B I (k + 1) = .inr W := by rw [GG, h]; show (match W[k]? with | none => _ | some e => _) = _; rw [List.getElem?_eq_none hl]
theorem gg_inl' {A B : List (List (Int × Int))} {I k : Nat} {x : List Int} (h : GG A B I k = .inl x) : ∀ j, GG A B I (k + j) = .inl x
  | 0 => h
  | j + 1 => gg_inl (gg_inl' h j)
theorem gg_end' {A B : List (List (Int × Int))} {I k : Nat} {W : List Q3} (h : GG A B I k = .inr W) (hl : W.length ≤ k) : ∀ j, GG A B I (k + j) = .inr W
  | 0 => h
  | j + 1 => gg_end (gg_end' h hl j) (Nat.le_trans hl (Nat.le_add_right k j))
theorem res_uniq {A B : List (List (Int × Int))} {I : Nat} {r r' : Option (List Int)} (h : Res A B I r) (h' : Res A B I r') : r = r' := by
  obtain ⟨k, h⟩ := h
  obtain ⟨k', h'⟩ := h'
  have e1 : k + k' = k' + k := Nat.add_comm _ _
  rcases h with ⟨x, rfl, g⟩ | ⟨rfl, W, g, l⟩ <;> rcases h' with ⟨x', rfl, g'⟩ | ⟨rfl, W', g', l'⟩
  · have a := gg_inl' g k'
    have b := gg_inl' g' k
    rw [e1, b] at a
    cases a
    rfl
  · have a := gg_inl' g k'
    have b := gg_end' g' l' k
    rw [e1, b] at a
    cases a
  · have a := gg_end' g l k'
    have b := gg_inl' g' k
    rw [e1, b] at a
    cases a
  · rfl
def sw3 (e : Q3) : Q3 := ((e.1.2, e.1.1), e.2)
def swS : Sum (List Int) (List Q3) → Sum (List Int) (List Q3)
  | .inl r => .inl r
  | .inr W => .inr (W.map sw3)
theorem sw_mem (W : List Q3) (a b : Int) : (b, a) ∈ (W.map sw3).map (·.1) ↔ (a, b) ∈ W.map (·.1) := by
  simp only [List.mem_map]
  constructor
  · rintro ⟨e, ⟨f, hf, rfl⟩, h⟩
    exact ⟨f, hf, by have := Prod.mk.inj h; exact Prod.ext this.2 this.1⟩
  · rintro ⟨f, hf, h⟩
    exact ⟨sw3 f, ⟨f, hf, rfl⟩, by show (f.1.2, f.1.1) = _; rw [h]⟩
theorem sw_step (A B : List (List (Int × Int))) (e : Q3) (W : List Q3) (l : Nat) : stepL B A (sw3 e) (W.map sw3) l = swS (stepL A B e W l) := by
  unfold stepL
  by_cases h1 : (cellZ A e.1.1 l).2 = (cellZ B e.1.2 l).2
  · have h1' : ¬ ((cellZ B (sw3 e).1.1 l).2 ≠ (cellZ A (sw3 e).1.2 l).2) := fun z => z h1.symm
    have h1'' : ¬ ((cellZ A e.1.1 l).2 ≠ (cellZ B e.1.2 l).2) := fun z => z h1
    rw [if_neg h1', if_neg h1'']
    by_cases h2 : ((cellZ A e.1.1 l).1, (cellZ B e.1.2 l).1) ∈ W.map (·.1)
    · have h2' : ((cellZ B (sw3 e).1.1 l).1, (cellZ A (sw3 e).1.2 l).1) ∈ (W.map sw3).map (·.1) := (sw_mem W _ _).mpr h2
      rw [if_pos h2', if_pos h2]
      rfl
    · have h2' : ¬ ((cellZ B (sw3 e).1.1 l).1, (cellZ A (sw3 e).1.2 l).1) ∈ (W.map sw3).map (·.1) := fun z => h2 ((sw_mem W _ _).mp z)
      rw [if_neg h2', if_neg h2]
      show Sum.inr _ = Sum.inr ((W ++ _).map sw3)
      rw [List.map_append]
      rfl
  · have h1' : (cellZ B (sw3 e).1.1 l).2 ≠ (cellZ A (sw3 e).1.2 l).2 := fun z => h1 z.symm
    rw [if_pos h1', if_pos h1]
    rfl
theorem sw_lets (A B : List (List (Int × Int))) (e : Q3) (W : List Q3) : ∀ n, lets B A (sw3 e) (W.map sw3) n = swS (lets A B e W n)
  | 0 => rfl
  | n + 1 => by
    rw [lets, sw_lets A B e W n, lets]
    cases lets A B e W n with
    | inl r => rfl
    | inr W' => exact sw_step A B e W' n
theorem sw_gg (A B : List (List (Int × Int))) (I : Nat) : ∀ k, GG B A I k = swS (GG A B I k)
  | 0 => rfl
  | k + 1 => by
    rw [GG, sw_gg A B I k, GG]
    cases GG A B I k with
    | inl r => rfl
    | inr W =>
      show (match (W.map sw3)[k]? with | none => _ | some e => _) = swS (match W[k]? with | none => _ | some e => _)
      rw [List.getElem?_map]
      cases W[k]? with
      | none => rfl
      | some e => exact sw_lets A B e W I
theorem res_swap {A B : List (List (Int × Int))} {I : Nat} {r : Option (List Int)} (h : Res A B I r) : Res B A I r := by
  obtain ⟨k, h⟩ := h
  refine ⟨k, ?_⟩
  rw [sw_gg]
  rcases h with ⟨x, e, g⟩ | ⟨e, W, g, l⟩
  · exact .inl ⟨x, e, by rw [g]; rfl⟩
  · exact .inr ⟨e, W.map sw3, by rw [g]; rfl, by rw [List.length_map]; exact l⟩
/-- all pairs are states, none is there twice -/
structure Wok (n m : Nat) (W : List Q3) : Prop where
  nd : (W.map (·.1)).Nodup
  i1 : ∀ e ∈ W, 0 ≤ e.1.1 ∧ e.1.1 < (n : Int)
  i2 : ∀ e ∈ W, 0 ≤ e.1.2 ∧ e.1.2 < (m : Int)
theorem nodup_len (n : Nat) : ∀ xs : List Nat, xs.Nodup → (∀ x ∈ xs, x < n) → xs.length ≤ n := by
  induction n with
  | zero =>
    intro xs _ h
    cases xs with
    | nil => exact Nat.le_refl _
    | cons x xs => exact absurd (h x List.mem_cons_self) (Nat.not_lt_zero _)
  | succ n ih =>
    intro xs nd h
    have h1 := ih (xs.filter (fun x => decide (x ≠ n))) (nd.sublist List.filter_sublist) (fun x hx => by
      have h2 := List.mem_filter.mp hx
      have h3 := h x h2.1
      have h4 := of_decide_eq_true h2.2
      omega)
    have h5 : xs.length ≤ (xs.filter (fun x => decide (x ≠ n))).length + 1 := by
      clear ih h1 h
      induction xs with
      | nil => simp
      | cons x xs ihx =>
        rw [List.nodup_cons] at nd
        by_cases hx : x = n
        · subst hx
          have : xs.filter (fun y => decide (y ≠ x)) = xs := List.filter_eq_self.mpr fun y hy => decide_eq_true (fun z => nd.1 (z ▸ hy))
          have h0 : (x :: xs).filter (fun y => decide (y ≠ x)) = xs.filter (fun y => decide (y ≠ x)) := List.filter_cons_of_neg (by simp)
          rw [h0, this]
          exact Nat.le_refl _
        · have h0 : (x :: xs).filter (fun y => decide (y ≠ n)) = x :: xs.filter (fun y => decide (y ≠ n)) := List.filter_cons_of_pos (decide_eq_true hx)
          rw [h0, List.length_cons, List.length_cons]
          have := ihx nd.2
          omega
    omega
theorem wok_len {n m : Nat} {W : List Q3} (h : Wok n m W) : W.length ≤ n * m := by
  have h1 := nodup_len (n * m) (W.map fun e => e.1.1.toNat * m + e.1.2.toNat) ?_ ?_
  · rw [List.length_map] at h1
    exact h1
  · have e : (W.map fun e : Q3 => e.1.1.toNat * m + e.1.2.toNat) = (W.map (·.1)).map fun p : Int × Int => p.1.toNat * m + p.2.toNat := by rw [List.map_map]; rfl
    rw [e]
    have h2 : ∀ p ∈ W.map (·.1), (0 ≤ p.1 ∧ p.1 < (n : Int)) ∧ 0 ≤ p.2 ∧ p.2 < (m : Int) := fun p hp => by
      obtain ⟨e, he, rfl⟩ := List.mem_map.mp hp
      exact ⟨h.i1 e he, h.i2 e he⟩
    have nd := h.nd
    generalize W.map (·.1) = ps at nd h2
    clear e
    induction ps with
    | nil => exact List.nodup_nil
    | cons p ps ih =>
      rw [List.nodup_cons] at nd
      rw [List.map_cons, List.nodup_cons]
      refine ⟨fun z => ?_, ih nd.2 fun q hq => h2 q (List.mem_cons_of_mem _ hq)⟩
      obtain ⟨q, hq, e⟩ := List.mem_map.mp z
      have a := h2 p List.mem_cons_self
      have b := h2 q (List.mem_cons_of_mem _ hq)
      have c1 : p.2.toNat < m := by omega
      have c2 : q.2.toNat < m := by omega
      have d1 : q.1.toNat = p.1.toNat := by
        have x1 : (q.1.toNat * m + q.2.toNat) / m = q.1.toNat := by rw [Nat.mul_comm, Nat.mul_add_div (by omega), Nat.div_eq_of_lt c2, Nat.add_zero]
        have x2 : (p.1.toNat * m + p.2.toNat) / m = p.1.toNat := by rw [Nat.mul_comm, Nat.mul_add_div (by omega), Nat.div_eq_of_lt c1, Nat.add_zero]
        have e' : q.1.toNat * m + q.2.toNat = p.1.toNat * m + p.2.toNat := e
        rw [← x1, e', x2]
      have d2 : q.2.toNat = p.2.toNat := by
        have e' : q.1.toNat * m + q.2.toNat = p.1.toNat * m + p.2.toNat := e
        rw [d1] at e'
        omega
      have : q = p := Prod.ext (by omega) (by omega)
      exact nd.1 (this ▸ hq)
  · intro x hx
    obtain ⟨e, he, rfl⟩ := List.mem_map.mp hx
    have a := h.i1 e he
    have b := h.i2 e he
    have c1 : e.1.1.toNat + 1 ≤ n := by omega
    have c2 : e.1.2.toNat < m := by omega
    have := Nat.mul_le_mul_right m c1
    rw [Nat.succ_mul] at this
    omega
theorem wok_step {n m : Nat} {A B : List (List (Int × Int))} {e : Q3} {W W' : List Q3} {l : Nat} (h : Wok n m W) (ha : 0 ≤ (cellZ A e.1.1 l).1 ∧ (cellZ A e.1.1 l).1 < (n : Int)) (hb : 0 ≤ (cellZ B e.1.2 l).1 ∧ (cellZ B e.1.2 l).1 < (m : Int)) (hs : stepL A B e W l = .inr W') : Wok n m W' ∧ ∃ ex, W' = W ++ ex := by
  unfold stepL at hs
  by_cases h1 : (cellZ A e.1.1 l).2 ≠ (cellZ B e.1.2 l).2
  · rw [if_pos h1] at hs
    cases hs
  rw [if_neg h1] at hs
  by_cases h2 : ((cellZ A e.1.1 l).1, (cellZ B e.1.2 l).1) ∈ W.map (·.1)
  · rw [if_pos h2] at hs
    cases hs
    exact ⟨h, [], (List.append_nil _).symm⟩
  rw [if_neg h2] at hs
  cases hs
  refine ⟨⟨?_, fun x hx => ?_, fun x hx => ?_⟩, _, rfl⟩
  · rw [List.map_append]
    refine List.nodup_append.mpr ⟨h.nd, by simp, fun a ha b hb => ?_⟩
    simp only [List.map_cons, List.map_nil, List.mem_singleton] at hb
    subst hb
    exact fun z => h2 (z ▸ ha)
  · rcases List.mem_append.mp hx with y | y
    · exact h.i1 x y
    · rw [List.mem_singleton.mp y]; exact ha
  · rcases List.mem_append.mp hx with y | y
    · exact h.i2 x y
    · rw [List.mem_singleton.mp y]; exact hb
theorem ints_get {xs : List Int} {j : Nat} {y : V} (h : (xs.map V.int)[j]? = some y) : ∃ t, xs[j]? = some t ∧ y = V.int t := by
  rw [List.getElem?_map] at h
  cases e : xs[j]? with
  | none => rw [e] at h; cases h
  | some t => rw [e] at h; exact ⟨t, rfl, (Option.some.inj h).symm⟩
theorem snoc_get {α : Type} {xs : List α} {x y : α} {j : Nat} (h : (xs ++ [x])[j]? = some y) : (j < xs.length ∧ xs[j]? = some y) ∨ (j = xs.length ∧ y = x) := by
  rcases Nat.lt_or_ge j xs.length with c | c
  · rw [List.getElem?_append_left c] at h
    exact .inl ⟨c, h⟩
  · rw [List.getElem?_append_right c] at h
    have e : j - xs.length = 0 := by
      cases e : j - xs.length with
      | zero => rfl
      | succ m => rw [e] at h; cases h
    rw [e] at h
    cases h
    exact .inr ⟨by omega, rfl⟩
theorem ite_f {c : Bool} {A B : Prop} (h : c = false) (q : B) : if c = true then A else B := by
  rw [if_neg (by rw [h]; exact Bool.false_ne_true)]
  exact q
theorem ite_t {c : Bool} {A B : Prop} (h : c = true) (q : A) : if c = true then A else B := by
  rw [if_pos h]
  exact q
def CR (I : Int) (c : List (List (Int × Int))) : Prop := (∀ r ∈ c, (r.length : Int) = I) ∧ ∀ r ∈ c, ∀ p ∈ r, 0 ≤ p.1 ∧ p.1 < (c.length : Int)
def spChkRows (cI : Addr) : Sp := fun vs H Q E => ∃ (r : Addr) (as : List Addr) (c : List (List (Int × Int))) (I : Int), vs = [.ref r, .int I] ∧ LPr H r as c ∧ (¬ CR I c → E (.ref cI) none H) ∧ (CR I c → Q .non H)
theorem cal_chkrows {cI : Addr} (T : Txt K mg) (eI : ErrC K mg "InvalidMachine" cI) : CalX P w K mg base 1 "check_rows" (spChkRows cI) := by
  obtain ⟨f, fd, F, hm, hb⟩ := T.h_check_rows
  refine ⟨f, fd, _, F.okX sc_check_rows (fun vs H Q E h => ?_) (fun cdv A outer s H vs Q E hr h => ?_), hm, F.kp, hb⟩
  · obtain ⟨r, as, c, I, rfl, _⟩ := h
    rfl
  · obtain ⟨r, as, c, I, rfl, ⟨e1, R⟩, q1, q2⟩ := h
    refine ⟨_, (pss_cons
      (ps_for (passes_of rfl) rfl (pi_list (pv 0)) (pg_name (i := 2) sc_check_rows.nd rfl (.inl rfl)) (pss_one
      (ps_if (pt_cmpR op_ne (pe_callB (call_lenK (K := K) rfl) (by rfl) T.z_len PySem.boot_len (pa_cons (pv 2) pa_nil)) (pv 1) (nomark _)) (pss_one
      (ps_raise rfl (takes_of rfl rfl rfl rfl) (eI.made rfl))) pss_nil)))
      (pss_one
      (ps_for (passes_of rfl) rfl (pi_list (pv 0)) (pg_name (i := 2) sc_check_rows.nd rfl (.inl rfl)) (pss_one
      (ps_for (passes_of rfl) rfl (pi_list (pv 2)) (pg_tup (by rfl) (pgs_cons (pg_name (i := 3) sc_check_rows.nd rfl (.inl rfl)) (pgs_cons (pg_name (i := 4) sc_check_rows.nd rfl (.inl rfl)) pgs_nil))) (pss_one
      (ps_if (PW.pt (pw_or (pt_cmpR op_lt (pv 3) pe_int (nomark _)) (pw_or1 (pt_cmpR op_ge (pv 3) (pe_callB (call_lenK (K := K) rfl) (by rfl) T.z_len PySem.boot_len (pa_cons (pv 0) pa_nil)) (nomark _))))) (pss_one
      (ps_raise rfl (takes_of rfl rfl rfl rfl) (eI.made rfl))) pss_nil))))))), ?_⟩
    have hl2 : (as.map V.ref).length = c.length := by rw [List.length_map, R.len]
    refine ⟨_, rfl, r, rfl, ⟨_, .of e1⟩, for_list (K := K) (a := r) (xs := as.map V.ref) (fun i σ' H' => ∃ v2 v3 v4 : Option V, σ' = [some (.ref r), some (.int I), v2, v3, v4] ∧ H' = H ∧ ∀ q ∈ c.take i, (q.length : Int) = I)
      ⟨_, _, _, rfl, rfl, by simp⟩ (fun i σ' H' _ ⟨_, _, _, _, z, _⟩ => by rw [z]; exact .of e1) ?_ ?_⟩
    · rintro i v σ' H' hi ⟨v2, v3, v4, rfl, rfl, hall⟩
      obtain ⟨a, haa, rfl⟩ := refs_get hi
      obtain ⟨bs, row, hrow, hra, hbl, _⟩ := R.g i a haa
      have hmem := List.mem_of_getElem? hrow
      have hbl2 : (bs.map V.ref).length = row.length := by rw [List.length_map, hbl]
      refine ⟨_, rfl, a, _, rfl, .inl (.of hra), _, rfl, rfl, _, rfl, ite_ne (fun k => ?_) (fun k => ?_)⟩
      · exact q1 fun v => k (by rw [hbl2]; exact v.1 row hmem)
      · rw [hbl2] at k
        refine ⟨_, _, _, rfl, rfl, fun z hz => ?_⟩
        rw [take_get hrow] at hz
        rcases List.mem_append.mp hz with y | y
        · exact hall z y
        · rw [List.mem_singleton.mp y]; exact k
    · rintro σ' H' ⟨v2, v3, v4, rfl, rfl, hall⟩
      rw [hl2, List.take_length] at hall
      refine ⟨_, rfl, r, rfl, ⟨_, .of e1⟩, for_list (K := K) (a := r) (xs := as.map V.ref) (fun i σ' H2 => ∃ v2 v3 v4 : Option V, σ' = [some (.ref r), some (.int I), v2, v3, v4] ∧ H2 = H' ∧ ∀ q ∈ c.take i, ∀ p ∈ q, 0 ≤ p.1 ∧ p.1 < (c.length : Int))
        ⟨_, _, _, rfl, rfl, by simp⟩ (fun i σ' H' _ ⟨_, _, _, _, z, _⟩ => by rw [z]; exact .of e1) ?_ ?_⟩
      · rintro i v σ' H2 hi ⟨v2, v3, v4, rfl, rfl, hall2⟩
        obtain ⟨a, haa, rfl⟩ := refs_get hi
        obtain ⟨bs, row, hrow, hra, hbl, hR⟩ := R.g i a haa
        have hmem := List.mem_of_getElem? hrow
        have hbl2 : (bs.map V.ref).length = row.length := by rw [List.length_map, hbl]
        refine ⟨_, rfl, a, rfl, ⟨_, .of hra⟩, for_list (K := K) (a := a) (xs := bs.map V.ref) (fun j σ' H3 => ∃ v3 v4 : Option V, σ' = [some (.ref r), some (.int I), some (.ref a), v3, v4] ∧ H3 = H2 ∧ ∀ p ∈ row.take j, 0 ≤ p.1 ∧ p.1 < (c.length : Int))
          ⟨_, _, rfl, rfl, by simp⟩ (fun i σ' H' _ ⟨_, _, _, z, _⟩ => by rw [z]; exact .of hra) ?_ ?_⟩
        · rintro j v σ' H3 hj ⟨v3, v4, rfl, rfl, hall3⟩
          obtain ⟨b, hb, rfl⟩ := refs_get hj
          obtain ⟨t, l, he, hbe⟩ := hR j b hb
          refine ⟨b, _, rfl, .of hbe, rfl, _, _, rfl, _, _, rfl, rfl, ?_⟩
          have bad : ¬ (0 ≤ t ∧ t < (c.length : Int)) → E (.ref cI) none H3 := fun k => q1 fun v => k (v.2 row hmem _ (List.mem_of_getElem? he))
          refine ⟨_, rfl, _, _, rfl, rfl, _, rfl, ite2 (fun k => ?_) (fun k => ?_)⟩
          · exact bad (by have := of_decide_eq_true k; omega)
          · have k1 : ¬ t < 0 := fun z => k (decide_eq_true z)
            refine ⟨_, rfl, _, rfl, r, _, rfl, .inl (.of e1), _, _, rfl, rfl, _, rfl, ite2 (fun k => ?_) (fun k => ?_)⟩
            · rw [hl2] at k
              exact bad (by have := of_decide_eq_true k; omega)
            · rw [hl2] at k
              have k2 : ¬ (c.length : Int) ≤ t := fun z => k (decide_eq_true z)
              refine ⟨_, _, rfl, rfl, fun z hz => ?_⟩
              rw [take_get he] at hz
              rcases List.mem_append.mp hz with y | y
              · exact hall3 z y
              · rw [List.mem_singleton.mp y]; exact ⟨by omega, by omega⟩
        · rintro σ' H3 ⟨v3, v4, rfl, rfl, hall3⟩
          rw [hbl2, List.take_length] at hall3
          refine ⟨_, _, _, rfl, rfl, fun z hz => ?_⟩
          rw [take_get hrow] at hz
          rcases List.mem_append.mp hz with y | y
          · exact hall2 z y
          · rw [List.mem_singleton.mp y]; exact hall3
      · rintro σ' H2 ⟨v2, v3, v4, rfl, rfl, hall2⟩
        rw [hl2, List.take_length] at hall2
        exact q2 ⟨hall, hall2⟩
def spChkSaid (cI : Addr) : Sp := fun vs H Q E => ∃ (a : Addr) (xs : List Int) (O : Int), vs = [.ref a, .int O] ∧ H a = some (.lst (xs.map V.int)) ∧ (¬ (∀ z ∈ xs, 0 ≤ z ∧ z < O) → E (.ref cI) none H) ∧ ((∀ z ∈ xs, 0 ≤ z ∧ z < O) → Q .non H)
theorem cal_chksaid {cI : Addr} (T : Txt K mg) (eI : ErrC K mg "InvalidMachine" cI) : CalX P w K mg base 1 "check_said" (spChkSaid cI) := by
  obtain ⟨f, fd, F, hm, hb⟩ := T.h_check_said
  refine ⟨f, fd, _, F.okX sc_check_said (fun vs H Q E h => ?_) (fun cdv A outer s H vs Q E hr h => ?_), hm, F.kp, hb⟩
  · obtain ⟨a, xs, O, rfl, _⟩ := h
    rfl
  · obtain ⟨a, xs, O, rfl, e1, q1, q2⟩ := h
    refine ⟨_, (pss_one
      (ps_for (passes_of rfl) rfl (pi_list (pv 0)) (pg_name (i := 2) sc_check_said.nd rfl (.inl rfl)) (pss_one
      (ps_if (PW.pt (pw_or (pt_cmpR op_lt (pv 2) pe_int (nomark _)) (pw_or1 (pt_cmpR op_ge (pv 2) (pv 1) (nomark _))))) (pss_one
      (ps_raise rfl (takes_of rfl rfl rfl rfl) (eI.made rfl))) pss_nil)))), ?_⟩
    refine ⟨_, rfl, a, rfl, ⟨_, .of e1⟩, for_list (K := K) (a := a) (xs := xs.map V.int) (fun i σ' H' => ∃ v2 : Option V, σ' = [some (.ref a), some (.int O), v2] ∧ H' = H ∧ ∀ z ∈ xs.take i, 0 ≤ z ∧ z < O)
      ⟨_, rfl, rfl, by simp⟩ (fun i σ' H' _ ⟨_, _, z, _⟩ => by rw [z]; exact .of e1) ?_ ?_⟩
    · rintro i v σ' H' hi ⟨v2, rfl, rfl, hall⟩
      obtain ⟨z, hz, rfl⟩ := ints_get hi
      have hmem := List.mem_of_getElem? hz
      refine ⟨_, rfl, _, _, rfl, rfl, _, rfl, ite2 (fun k => ?_) (fun k => ?_)⟩
      · exact q1 fun v => by have := v z hmem; have := of_decide_eq_true k; omega
      · have k1 : ¬ z < 0 := fun y => k (decide_eq_true y)
        refine ⟨_, rfl, _, rfl, _, _, rfl, rfl, _, rfl, ite2 (fun k => ?_) (fun k => ?_)⟩
        · exact q1 fun v => by have := v z hmem; have := of_decide_eq_true k; omega
        · have k2 : ¬ O ≤ z := fun y => k (decide_eq_true y)
          refine ⟨_, rfl, rfl, fun y hy => ?_⟩
          rw [take_get hz] at hy
          rcases List.mem_append.mp hy with u | u
          · exact hall y u
          · rw [List.mem_singleton.mp u]; exact ⟨by omega, by omega⟩
    · rintro σ' H' ⟨v2, rfl, rfl, hall⟩
      rw [List.length_map, List.take_length] at hall
      exact q2 hall
/-- two clauses: the outer walk over a list -/
theorem lc2_list {a : Addr} {xs : List V} {g g1 : TG} {tt tt1 : TT} {wi1 : TI} {te : TE} {vs vs1 : List Nat} {σ : L2.St} {H1 : Hp} {D : Addr} {Qd : Hp → Prop} (Pv : Nat → Hp → Prop) (h0 : Pv 0 (upd H1 D (.lst []))) (hl : ∀ i H, i ≤ xs.length → Pv i H → SqL K H a xs)
    (hs : ∀ i x H, xs[i]? = some x → Pv i H → g x (wipe σ vs) H fun σ2 H2 => wipe σ2 vs = wipe σ vs ∧ tt σ2 H2 fun b H3 => if b = true then wi1 σ2 H3 fun J1 H4 => ∃ W1 : Nat → Nat → Hp → Prop, (∃ m, W1 0 m H4) ∧ ∀ j k H, W1 j k H →
      (J1.stop j H ∧ Pv (i + 1) H) ∨ (J1.go j H ∧ ∃ Nx1 : Hp → Prop, (∀ H', Nx1 H' → ∃ k', k' < k ∧ W1 (j + 1) k' H') ∧ ∀ x H', J1.yld j H x H' → g1 x (wipe σ2 vs1) H' fun σ3 H5 => wipe σ3 vs1 = wipe σ2 vs1 ∧ tt1 σ3 H5 fun b H6 =>
        if b = true then te σ3 H6 fun y H7 => ∃ acc, H7 D = some (.lst acc) ∧ acc.length < sizeLine ∧ Nx1 (upd H7 D (.lst (acc ++ [y]))) else Nx1 H6) else Pv (i + 1) H3) (hd : ∀ H, Pv xs.length H → Qd H) :
    ∃ W : Nat → Nat → Hp → Prop, (∃ m, W 0 m (upd H1 D (.lst []))) ∧ ∀ i m H, W i m H →
      ((Itl K a).stop i H ∧ Qd H) ∨ ((Itl K a).go i H ∧ ∃ Nx : Hp → Prop, (∀ H', Nx H' → ∃ m', m' < m ∧ W (i + 1) m' H') ∧ ∀ x H', (Itl K a).yld i H x H' → g x (wipe σ vs) H' fun σ2 H2 => wipe σ2 vs = wipe σ vs ∧ tt σ2 H2 fun b H3 =>
        if b = true then wi1 σ2 H3 fun J1 H4 => ∃ W1 : Nat → Nat → Hp → Prop, (∃ m, W1 0 m H4) ∧ ∀ j k H, W1 j k H →
          (J1.stop j H ∧ Nx H) ∨ (J1.go j H ∧ ∃ Nx1 : Hp → Prop, (∀ H', Nx1 H' → ∃ k', k' < k ∧ W1 (j + 1) k' H') ∧ ∀ x H', J1.yld j H x H' → g1 x (wipe σ2 vs1) H' fun σ3 H5 => wipe σ3 vs1 = wipe σ2 vs1 ∧ tt1 σ3 H5 fun b H6 =>
            if b = true then te σ3 H6 fun y H7 => ∃ acc, H7 D = some (.lst acc) ∧ acc.length < sizeLine ∧ Nx1 (upd H7 D (.lst (acc ++ [y]))) else Nx1 H6) else Nx H3) := by
  refine ⟨fun i m H => m = xs.length - i ∧ i ≤ xs.length ∧ Pv i H, ⟨xs.length, by simp, Nat.zero_le _, h0⟩, ?_⟩
  rintro i m H ⟨rfl, hi, p⟩
  have q := hl i H hi p
  rcases Nat.lt_or_ge i xs.length with c | c
  · exact .inr ⟨⟨xs, xs[i], q, List.getElem?_eq_getElem c⟩, Pv (i + 1), fun H' p' => ⟨xs.length - (i + 1), by omega, rfl, c, p'⟩, fun x H' y => by rw [y.1]; exact hs i x H (y.2 xs q) p⟩
  · have e : i = xs.length := Nat.le_antisymm hi c
    rw [e] at p
    exact .inl ⟨⟨xs, q, c⟩, hd H p⟩
/-- .. the inner walk over a list -/
theorem lc2_inL {b : Addr} {ys : List V} {g1 : TG} {tt1 : TT} {te : TE} {vs1 : List Nat} {σ2 : L2.St} {H4 : Hp} {D : Addr} {Nx : Hp → Prop} (Pv : Nat → Hp → Prop) (h0 : Pv 0 H4) (hl : ∀ j H, j ≤ ys.length → Pv j H → SqL K H b ys)
    (hs : ∀ j x H, ys[j]? = some x → Pv j H → g1 x (wipe σ2 vs1) H fun σ3 H5 => wipe σ3 vs1 = wipe σ2 vs1 ∧ tt1 σ3 H5 fun c H6 => if c = true then te σ3 H6 fun y H7 => ∃ acc, H7 D = some (.lst acc) ∧ acc.length < sizeLine ∧ Pv (j + 1) (upd H7 D (.lst (acc ++ [y]))) else Pv (j + 1) H6)
    (hd : ∀ H, Pv ys.length H → Nx H) :
    ∃ W1 : Nat → Nat → Hp → Prop, (∃ m, W1 0 m H4) ∧ ∀ j k H, W1 j k H →
      ((Itl K b).stop j H ∧ Nx H) ∨ ((Itl K b).go j H ∧ ∃ Nx1 : Hp → Prop, (∀ H', Nx1 H' → ∃ k', k' < k ∧ W1 (j + 1) k' H') ∧ ∀ x H', (Itl K b).yld j H x H' → g1 x (wipe σ2 vs1) H' fun σ3 H5 => wipe σ3 vs1 = wipe σ2 vs1 ∧ tt1 σ3 H5 fun c H6 =>
        if c = true then te σ3 H6 fun y H7 => ∃ acc, H7 D = some (.lst acc) ∧ acc.length < sizeLine ∧ Nx1 (upd H7 D (.lst (acc ++ [y]))) else Nx1 H6) := by
  refine ⟨fun j m H => m = ys.length - j ∧ j ≤ ys.length ∧ Pv j H, ⟨ys.length, by simp, Nat.zero_le _, h0⟩, ?_⟩
  rintro j m H ⟨rfl, hj, p⟩
  have q := hl j H hj p
  rcases Nat.lt_or_ge j ys.length with c | c
  · exact .inr ⟨⟨ys, ys[j], q, List.getElem?_eq_getElem c⟩, Pv (j + 1), fun H' p' => ⟨ys.length - (j + 1), by omega, rfl, c, p'⟩, fun x H' y => by rw [y.1]; exact hs j x H (y.2 ys q) p⟩
  · have e : j = ys.length := Nat.le_antisymm hj c
    rw [e] at p
    exact .inl ⟨⟨ys, q, c⟩, hd H p⟩
theorem sq_nx {H : Hp} {x a C dx : Addr} {f : List (Str × V)} {xs : List V} (hx : H x = some (.ins C dx f)) (h : SeqV H a xs) : a ≠ x := fun z => by
  rw [z] at h
  rcases h with h | h
  · rw [hx] at h
    cases h
  · rw [hx] at h
    cases h
theorem tupq {H : Hp} {p : Addr} {ns : List Int} {Q : VK} (h : SeqV H p (ns.map V.int)) (q : ∀ (H' : Hp) (t : Addr), Same H H' → TupI H' t ns → Q (.ref t) H') : rTupOf K [.ref p] H Q := by
  rcases h with h | h
  · exact ⟨p, _, rfl, .inl ⟨.of h, fun l hl => q _ l (same_new hl) upd_same⟩⟩
  · exact ⟨p, _, rfl, .inr ⟨.of h, q H p (Same.refl _) h⟩⟩
theorem RP.kp {mk : List V → HO} {H H' : Hp} {x : Addr} {as : List Addr} {c : List (List (Int × Int))} (hx : ∀ ys, H x ≠ some (mk ys) ∧ H x ≠ some (.tup ys)) (k : Kp x H H') (h : RP mk H as c) : RP mk H' as c := ⟨h.len, fun i a e => by
  obtain ⟨bs, row, h1, h2, h3, h4⟩ := h.g i a e
  refine ⟨bs, row, h1, k _ _ (fun z => (hx _).1 (by rw [← z]; exact h2)) h2, h3, fun j b hb => ?_⟩
  obtain ⟨t, l, h5, h6⟩ := h4 j b hb
  exact ⟨t, l, h5, k _ _ (fun z => (hx _).2 (by rw [← z]; exact h6)) h6⟩⟩
theorem LPr.kp {H H' : Hp} {x r C dx : Addr} {f : List (Str × V)} {as : List Addr} {c : List (List (Int × Int))} (hx : H x = some (.ins C dx f)) (k : Kp x H H') (h : LPr H r as c) : LPr H' r as c :=
  ⟨k _ _ (fun z => by have := h.1; rw [z, hx] at this; cases this) h.1, My.RP.kp (fun ys => ⟨fun z => (by rw [hx] at z; cases z), fun z => by rw [hx] at z; cases z⟩) k h.2⟩
theorem RP.snoc {mk : List V → HO} {H : Hp} {as : List Addr} {c : List (List (Int × Int))} {a : Addr} {bs : List Addr} {row : List (Int × Int)} (h : RP mk H as c) (ha : H a = some (mk (bs.map V.ref))) (hl : bs.length = row.length) (hb : ∀ (j : Nat) (b : Addr), bs[j]? = some b → ∃ t l, row[j]? = some (t, l) ∧ H b = some (.tup [.int t, .int l])) : RP mk H (as ++ [a]) (c ++ [row]) := by
  refine ⟨by rw [List.length_append, List.length_append, h.len]; rfl, fun i a' e => ?_⟩
  rcases snoc_get e with ⟨h0, h1⟩ | ⟨h1, h2⟩
  · obtain ⟨bs', row', g1, g2, g3, g4⟩ := h.g i a' h1
    exact ⟨bs', row', by rw [List.getElem?_append_left (by have := h.len; omega)]; exact g1, g2, g3, g4⟩
  · subst h2
    exact ⟨bs, row, by rw [List.getElem?_append_right (by have := h.len; omega), show i - c.length = 0 by have := h.len; omega]; rfl, ha, hl, hb⟩
theorem RP.nil {mk : List V → HO} {H : Hp} : RP mk H [] [] := ⟨rfl, fun i a e => by cases e⟩
theorem tup_upd {H : Hp} {D : Addr} {ys : List V} {o : HO} (h : H D = some (.lst ys)) : ∀ (b : Addr) (xs : List V), H b = some (.tup xs) → (upd H D o) b = some (.tup xs) := fun b xs hb => by
  rw [upd_ne (fun z => by rw [z, h] at hb; cases hb)]
  exact hb
def sds (c : List (List (Int × Int))) : List Int := (c.map fun r => r.map fun p => p.2).flatten
theorem sds_snoc (c : List (List (Int × Int))) (r : List (Int × Int)) : sds (c ++ [r]) = sds c ++ r.map fun p => p.2 := by
  unfold sds
  rw [List.map_append, List.flatten_append]
  simp
theorem sds_len : ∀ c : List (List (Int × Int)), (∀ r ∈ c, r.length ≤ 100) → (sds c).length ≤ 100 * c.length
  | [], _ => by simp [sds]
  | r :: rs, h => by
    have e : sds (r :: rs) = (r.map fun p => p.2) ++ sds rs := rfl
    have h1 := h r List.mem_cons_self
    have h2 := sds_len rs fun x hx => h x (List.mem_cons_of_mem _ hx)
    rw [e, List.length_append, List.length_map, List.length_cons]
    omega
theorem sds_mem {c : List (List (Int × Int))} {z : Int} : z ∈ sds c ↔ ∃ r ∈ c, ∃ p ∈ r, p.2 = z := by
  unfold sds
  rw [List.mem_flatten]
  constructor
  · rintro ⟨l, hl, hz⟩
    obtain ⟨r, hr, rfl⟩ := List.mem_map.mp hl
    obtain ⟨p, hp, rfl⟩ := List.mem_map.mp hz
    exact ⟨r, hr, p, hp, rfl⟩
  · rintro ⟨r, hr, p, hp, rfl⟩
    exact ⟨_, List.mem_map.mpr ⟨r, hr, rfl⟩, List.mem_map.mpr ⟨p, hp, rfl⟩⟩
def spInitM (C cI : Addr) : Sp := fun vs H Q E => ∃ (x a r dx : Addr) (I O L : Int) (op : List Int) (as : List Addr) (c : List (List (Int × Int))), vs = [.ref x, .int I, .int O, .int L, .ref a, .ref r] ∧ H x = some (.ins C dx []) ∧ SeqV H a (op.map V.int) ∧ LPr H r as c ∧
  op.length ≤ 1000 ∧ c.length ≤ 100 ∧ (∀ r ∈ c, r.length ≤ 100) ∧ (¬ Vm I O L op c → ∀ H', Same H H' → E (.ref cI) none H') ∧ (Vm I O L op c → ∀ H', Kp x H H' → MchAt C H' x I O L op c → Q .non H')
theorem ok_initM {cI C fI : Addr} {fdI : FuncData} {tk1 tk2 : Tok} (T : Txt K mg) (eI : ErrC K mg "InvalidMachine" cI) (PC : MchC K C) (gLL : mg "LEAST_LEAD" = some (.int (-3) tk1)) (gGL : mg "GREATEST_LEAD" = some (.int 2 tk2)) (F : L2.Fun K "__init__" "Machine.__init__" s_Machine_init fI fdI) :
    FnOk P w K mg base (L2.CX P w) 2 fI fdI ["self", "inputs", "outputs", "lead", "opening", "rows"] (spInitM C cI) := by
  have X_check_rows : CalX P w K mg base 1 "check_rows" (spChkRows cI) := cal_chkrows T eI
  have X_check_said : CalX P w K mg base 1 "check_said" (spChkSaid cI) := cal_chksaid T eI
  refine F.okX sc_Machine_init (fun vs H Q E h => ?_) (fun cdv A outer s H vs Q E hr h => ?_)
  · obtain ⟨x, a, r, dx, I, O, L, op, as, c, rfl, _⟩ := h
    rfl
  · obtain ⟨x, a, r, dx, I, O, L, op, as, c, rfl, hx, ha, hL, l0, l1, l2, q1, q2⟩ := h
    refine ⟨_, (pss_cons
      (ps_if (PW.pt (pw_or (pt_cmpR op_lt (pv 1) pe_int (nomark _)) (pw_or1 (pt_cmpR op_lt (pv 2) pe_int (nomark _))))) (pss_one
      (ps_raise rfl (takes_of rfl rfl rfl rfl) (eI.made rfl))) pss_nil)
      (pss_cons
      (ps_if (PW.pt (pw_or (pt_cmpR op_lt (pv 3) (pe_glob (v := .int (-3)) (by rfl) gLL ⟨_, rfl⟩) (nomark _)) (pw_or1 (pt_cmpR op_gt (pv 3) (pe_glob (v := .int 2) (by rfl) gGL ⟨_, rfl⟩) (nomark _))))) (pss_one
      (ps_raise rfl (takes_of rfl rfl rfl rfl) (eI.made rfl))) pss_nil)
      (pss_cons
      (ps_if (pt_cmpR op_ne (pe_callB (call_lenK (K := K) rfl) (by rfl) T.z_len PySem.boot_len (pa_cons (pv 4) pa_nil)) (pe_callB (call_max2 rfl) (by rfl) T.z_max (by decide +kernel) (pa_cons pe_int (pa_cons (pe_un un_neg (pv 3)) pa_nil))) (nomark _)) (pss_one
      (ps_raise rfl (takes_of rfl rfl rfl rfl) (eI.made rfl))) pss_nil)
      (pss_cons
      (ps_if (pt_cmpR op_eq (pe_callB (call_lenK (K := K) rfl) (by rfl) T.z_len PySem.boot_len (pa_cons (pv 5) pa_nil)) pe_int (nomark _)) (pss_one
      (ps_raise rfl (takes_of rfl rfl rfl rfl) (eI.made rfl))) pss_nil)
      (pss_cons
      (ps_expr (pe_cx X_check_rows hr (by decide) (takes_of rfl rfl rfl rfl) (by rfl) (pa_cons (pv 5) (pa_cons (pv 1) pa_nil))))
      (pss_cons
      (ps_expr (pe_cx X_check_said hr (by decide) (takes_of rfl rfl rfl rfl) (by rfl) (pa_cons (pe_op op_cat (pe_callTy (call_list_ofK (K := K) rfl) (by rfl) T.z_list (by decide +kernel) (pa_cons (pv 4) pa_nil)) (pe_lc2 (own := [("row", 6), ("_", 7), ("letter", 8)]) (vs1 := [7, 8]) (g := gName 6) (g1 := gTup K 2 (gCons (gName 7) (gCons (gName 8) gNil))) (tt := tYes) (tt1 := tYes) rfl sc_Machine_init.nd (pi_list (pv 5)) (blkOk_by (N := N_Machine_init) (sc := defScope s_Machine_init) (by decide +kernel)) (by decide) (fun _ _ _ _ _ => (pg_name (i := 6) sc_Machine_init.nd rfl (Or.inl rfl))) (fun _ _ _ _ _ => pts_nil) (fun _ _ _ _ _ => (pi_listK (K := K) rfl (pv 6))) (fun _ _ _ _ _ => (pg_tup (by rfl) (pgs_cons (pg_name (i := 7) sc_Machine_init.nd rfl (Or.inl rfl)) (pgs_cons (pg_name (i := 8) sc_Machine_init.nd rfl (Or.inl rfl)) pgs_nil)))) (fun _ _ _ _ _ => pts_nil) (fun _ _ _ _ _ => (pv 8)))) (pa_cons (pv 2) pa_nil))))
      (pss_cons
      (ps_fld (pv 0) (pv 1) rfl)
      (pss_cons
      (ps_fld (pv 0) (pv 2) rfl)
      (pss_cons
      (ps_fld (pv 0) (pv 3) rfl)
      (pss_cons
      (ps_fld (pv 0) (pe_callTy (call_tuple_ofK (K := K) rfl) (by rfl) T.z_tuple (by decide +kernel) (pa_cons (pv 4) pa_nil)) rfl)
      (pss_one
      (ps_fld (pv 0) (pe_callTy (call_tuple_ofK (K := K) rfl) (by rfl) T.z_tuple (by decide +kernel) (pa_cons (pe_lc (own := [("row", 6)]) (g := gName 6) (tt := tYes) rfl sc_Machine_init.nd (pi_list (pv 5)) (blkOk_by (N := N_Machine_init) (sc := defScope s_Machine_init) (by decide +kernel)) (fun _ _ _ _ _ => (pg_name (i := 6) sc_Machine_init.nd rfl (Or.inl rfl))) (fun _ _ _ _ _ => pts_nil) (fun _ _ _ _ _ => (pe_callTy (call_tuple_ofK (K := K) rfl) (by rfl) T.z_tuple (by decide +kernel) (pa_cons (pe_lc (own := [("target", 9), ("letter", 8)]) (g := gTup K 2 (gCons (gName 9) (gCons (gName 8) gNil))) (tt := tYes) rfl sc_Machine_init.nd (pi_listK (K := K) rfl (pv 6)) (blkOk_by (N := N_Machine_init) (sc := stS (defScope s_Machine_init) 10 (defBody s_Machine_init)) (by decide +kernel)) (fun _ _ _ _ _ => (pg_tup (by rfl) (pgs_cons (pg_name (i := 9) sc_Machine_init.nd rfl (Or.inl rfl)) (pgs_cons (pg_name (i := 8) sc_Machine_init.nd rfl (Or.inl rfl)) pgs_nil)))) (fun _ _ _ _ _ => pts_nil) (fun _ _ _ _ _ => (pe_tup (pa_cons (pv 9) (pa_cons (pv 8) pa_nil))))) pa_nil)))) pa_nil)) rfl)))))))))))), ?_⟩
    have hl2 : (as.map V.ref).length = c.length := by rw [List.length_map, hL.2.len]
    refine ⟨_, rfl, _, _, rfl, rfl, _, rfl, ite2 (fun k => q1 (fun v => by have := v.i1; have := of_decide_eq_true k; omega) H (Same.refl H)) (fun k => ?_)⟩
    have k1 : ¬ I < 1 := fun y => k (decide_eq_true y)
    refine ⟨_, rfl, _, _, rfl, rfl, _, rfl, ite2 (fun k => q1 (fun v => by have := v.o1; have := of_decide_eq_true k; omega) H (Same.refl H)) (fun k => ?_)⟩
    have k2 : ¬ O < 1 := fun y => k (decide_eq_true y)
    refine ⟨_, rfl, _, _, rfl, rfl, _, rfl, ite2 (fun k => q1 (fun v => by have := v.l0; have := of_decide_eq_true k; omega) H (Same.refl H)) (fun k => ?_)⟩
    have k3 : ¬ L < -3 := fun y => k (decide_eq_true y)
    refine ⟨_, rfl, _, _, rfl, rfl, _, rfl, ite2 (fun k => q1 (fun v => by have := v.l1; have := of_decide_eq_true k; omega) H (Same.refl H)) (fun k => ?_)⟩
    have k4 : ¬ 2 < L := fun y => k (decide_eq_true y)
    have emx : (if -L > 0 then -L else 0) = max 0 (-L) := by split <;> omega
    refine ⟨_, rfl, a, _, rfl, ha.sq, _, rfl, _, rfl, _, _, rfl, rfl, _, rfl, ?_⟩
    rw [emx, List.length_map]
    refine ite_ne (fun k => q1 (fun v => k v.op_len) H (Same.refl H)) (fun k5 => ?_)
    refine ⟨_, rfl, r, _, rfl, .inl (.of hL.1), rfl, _, rfl, ?_⟩
    rw [hl2]
    refine ite_eq (fun k => q1 (fun v => v.ne (List.length_eq_zero_iff.mp (by omega))) H (Same.refl H)) (fun k6 => ?_)
    refine ⟨_, rfl, _, rfl, r, as, c, I, rfl, hL, fun k => q1 (fun v => k ⟨v.w, v.st⟩) H (Same.refl H), fun hCR => ?_⟩
    refine ⟨_, rfl, a, _, rfl, ha.sq, fun p1 n1 => ?_⟩
    have s1 := same_new (o := .lst (op.map V.int)) n1
    have ep1 := upd_same (H := H) (a := p1) (o := .lst (op.map V.int))
    generalize upd H p1 (.lst (op.map V.int)) = H1 at s1 ep1 ⊢
    refine ⟨_, rfl, r, rfl, ⟨_, .of (s1 _ _ hL.1)⟩, fun D hD => lc2_list (K := K) (a := r) (xs := as.map V.ref) (fun i H' => Same H1 H' ∧ H' D = some (.lst ((sds (c.take i)).map V.int))) ⟨same_new hD, upd_same⟩ (fun i H' _ ⟨z, _⟩ => .of (z _ _ (s1 _ _ hL.1))) ?_ ?_⟩
    · rintro i v H4 hi ⟨s4, e4⟩
      obtain ⟨ra, hra, rfl⟩ := refs_get hi
      obtain ⟨bs, row, hrow, hae, hbl, hR⟩ := hL.2.g i ra hra
      have hi := (List.getElem?_eq_some_iff.mp hrow).1
      have hrl := l2 row (List.mem_of_getElem? hrow)
      have hsl := sds_len (c.take i) fun q hq => l2 q (List.mem_of_mem_take hq)
      rw [List.length_take] at hsl
      have hbl2 : (bs.map V.ref).length = row.length := by rw [List.length_map, hbl]
      refine ⟨rfl, _, rfl, ra, rfl, ⟨_, .of (s4 _ _ (s1 _ _ hae))⟩, ?_⟩
      refine lc2_inL (K := K) (b := ra) (ys := bs.map V.ref) (fun j H5 => Same H1 H5 ∧ H5 D = some (.lst ((sds (c.take i) ++ (row.take j).map fun p => p.2).map V.int))) ⟨s4, by rw [List.take_zero, List.map_nil, List.append_nil]; exact e4⟩ (fun j H5 _ ⟨z, _⟩ => .of (z _ _ (s1 _ _ hae))) ?_ ?_
      · rintro j y H5 hj ⟨s5, e5⟩
        obtain ⟨b, hb, rfl⟩ := refs_get hj
        obtain ⟨t, l, hp, hbe⟩ := hR j b hb
        have hjl := (List.getElem?_eq_some_iff.mp hp).1
        refine ⟨b, _, rfl, .of (s5 _ _ (s1 _ _ hbe)), rfl, _, _, rfl, _, _, rfl, rfl, rfl, _, rfl, _, e5, ?_, fun d u hd => ?_, ?_⟩
        · rw [List.length_map, List.length_append, List.length_map, List.length_take]
          exact Nat.lt_of_le_of_lt (show _ ≤ 20000 by omega) (by decide)
        · rw [upd_ne (ne_of_none hd hD)]
          exact s5 _ _ hd
        · rw [upd_same, take_get hp, List.map_append (l₂ := [(t, l)]), ← List.append_assoc, List.map_append (l₂ := List.map _ [(t, l)])]
          rfl
      · rintro H5 ⟨s5, e5⟩
        rw [hbl2, List.take_length] at e5
        exact ⟨s5, by rw [take_get hrow, sds_snoc]; exact e5⟩
    rintro H4 ⟨s4, e4⟩
    rw [hl2, List.take_length] at e4
    have hsl := sds_len c l2
    have s04 := s1.trans s4
    have np1D : p1 ≠ D := fun z => by rw [← z, ep1] at hD; cases hD
    refine ⟨p1, D, _, _, rfl, rfl, s4 _ _ ep1, e4, by rw [List.length_map, List.length_map]; exact Nat.le_trans (show _ ≤ 20000 by omega) (by decide), fun p3 n3 => ?_⟩
    rw [← List.map_append]
    have s5 := s04.trans (same_new (o := .lst ((op ++ sds c).map V.int)) n3)
    have e5 := upd_same (H := H4) (a := p3) (o := .lst ((op ++ sds c).map V.int))
    generalize upd H4 p3 (.lst ((op ++ sds c).map V.int)) = H5 at s5 e5 ⊢
    refine ⟨_, rfl, p3, op ++ sds c, O, rfl, e5, fun k => q1 (fun v => k fun z hz => ?_) H5 s5, fun hCS => ?_⟩
    · rcases List.mem_append.mp hz with y | y
      · exact v.op_in z y
      · obtain ⟨r', hr', p, hp, rfl⟩ := sds_mem.mp y
        exact v.em r' hr' p hp
    have hV : Vm I O L op c := ⟨by omega, by omega, by omega, by omega, k5, fun z => k6 (by rw [z]; rfl), hCR.1, hCR.2, fun z hz => hCS z (List.mem_append_left _ hz), fun r' hr' p hp => hCS _ (List.mem_append_right _ (sds_mem.mpr ⟨r', hr', p, hp, rfl⟩))⟩
    have hx5 := s5 _ _ hx
    have ha5 := ha.same s5
    have hL5 := hL.same s5
    have k05 : Kp x H H5 := Same.kp s5
    clear s1 ep1 s4 e4 s04 e5 n1 n3 hD hsl np1D
    -- the fields
    refine ⟨_, rfl, _, rfl, x, C, dx, [], rfl, hx5, PC.cl, PC.nI, by decide, ?_⟩
    have kA : Kp x H5 (upd H5 x (.ins C dx (putF "inputs" (.int I) []))) := Kp.own
    have xA := upd_same (H := H5) (a := x) (o := .ins C dx (putF "inputs" (.int I) []))
    generalize upd H5 x (.ins C dx (putF "inputs" (.int I) [])) = HA at kA xA ⊢
    refine ⟨_, rfl, _, rfl, x, C, dx, _, rfl, xA, PC.cl, PC.nO, pl_lt (pl_next pl_0) (by decide), ?_⟩
    have kB : Kp x HA (upd HA x (.ins C dx (putF "outputs" (.int O) (putF "inputs" (.int I) [])))) := Kp.own
    have xB := upd_same (H := HA) (a := x) (o := .ins C dx (putF "outputs" (.int O) (putF "inputs" (.int I) [])))
    generalize upd HA x (.ins C dx (putF "outputs" (.int O) (putF "inputs" (.int I) []))) = HB at kB xB ⊢
    refine ⟨_, rfl, _, rfl, x, C, dx, _, rfl, xB, PC.cl, PC.nL, pl_lt (pl_next (pl_next pl_0)) (by decide), ?_⟩
    have kC : Kp x HB (upd HB x (.ins C dx (putF "lead" (.int L) (putF "outputs" (.int O) (putF "inputs" (.int I) []))))) := Kp.own
    have xC := upd_same (H := HB) (a := x) (o := .ins C dx (putF "lead" (.int L) (putF "outputs" (.int O) (putF "inputs" (.int I) []))))
    generalize upd HB x (.ins C dx (putF "lead" (.int L) (putF "outputs" (.int O) (putF "inputs" (.int I) [])))) = HC at kC xC ⊢
    have k5C : Kp x H5 HC := (kA.trans kB).trans kC
    have nax : a ≠ x := sq_nx hx5 ha5
    have haC : SeqV HC a (op.map V.int) := ha5.elim (fun z => .inl (k5C _ _ nax z)) (fun z => .inr (k5C _ _ nax z))
    clear kA xA kB xB kC
    refine ⟨_, rfl, ?_⟩
    walk_at "nl"
    refine tupq haC fun Ha ot sa ta => ?_
    have xa := sa _ _ xC
    have nxo : x ≠ ot := fun z => by rw [TupI, ← z, xa] at ta; cases ta
    refine ⟨_, rfl, x, C, dx, _, rfl, xa, PC.cl, PC.no, pl_lt (pl_next (pl_next (pl_next pl_0))) (by decide), ?_⟩
    have k0C : Kp x H (upd Ha x (.ins C dx (putF "opening" (.ref ot) (putF "lead" (.int L) (putF "outputs" (.int O) (putF "inputs" (.int I) [])))))) := fun b u nb hb => by
      rw [upd_ne nb]
      exact sa _ _ (k5C _ _ nb (k05 _ _ nb hb))
    have x3 := upd_same (H := Ha) (a := x) (o := .ins C dx (putF "opening" (.ref ot) (putF "lead" (.int L) (putF "outputs" (.int O) (putF "inputs" (.int I) [])))))
    have t3 : TupI (upd Ha x (.ins C dx (putF "opening" (.ref ot) (putF "lead" (.int L) (putF "outputs" (.int O) (putF "inputs" (.int I) [])))))) ot op := by
      show _ = _
      rw [upd_ne nxo.symm]
      exact ta
    generalize upd Ha x (.ins C dx (putF "opening" (.ref ot) (putF "lead" (.int L) (putF "outputs" (.int O) (putF "inputs" (.int I) []))))) = H3 at k0C x3 t3 ⊢
    have hL3 := My.LPr.kp hx k0C hL
    clear sa ta xa haC xC k5C hx5 ha5 hL5 k05 s5
    refine ⟨_, rfl, r, rfl, ⟨_, .of hL3.1⟩, fun D hD => lc_list (K := K) (a := r) (xs := as.map V.ref) (fun i H4 => ∃ as2 : List Addr, Same H3 H4 ∧ H4 D = some (.lst (as2.map V.ref)) ∧ RP .tup H4 as2 (c.take i))
      ⟨[], same_new hD, upd_same, My.RP.nil⟩ (fun i H' _ ⟨_, z, _⟩ => .of (z _ _ hL3.1)) ?_ ?_⟩
    · rintro i v H4 hi ⟨as2, s4, e4, R4⟩
      obtain ⟨ra, hra, rfl⟩ := refs_get hi
      obtain ⟨bs, row, hrow, hae, hbl, hR⟩ := hL3.2.g i ra hra
      have hil := (List.getElem?_eq_some_iff.mp hrow).1
      have hrl := l2 row (List.mem_of_getElem? hrow)
      have hbl2 : (bs.map V.ref).length = row.length := by rw [List.length_map, hbl]
      refine ⟨rfl, _, rfl, ra, rfl, ⟨_, .of (s4 _ _ hae)⟩, fun E1 hE => lc_list (K := K) (a := ra) (xs := bs.map V.ref) (fun j H5 => ∃ cs : List Addr, Same H4 H5 ∧ H5 E1 = some (.lst (cs.map V.ref)) ∧ cs.length = j ∧ ∀ (m : Nat) (b : Addr), cs[m]? = some b → ∃ t l, row[m]? = some (t, l) ∧ H5 b = some (.tup [.int t, .int l]))
        ⟨[], same_new hE, upd_same, rfl, fun m b e => by cases e⟩ (fun i H' _ ⟨_, z, _⟩ => .of (z _ _ (s4 _ _ hae))) ?_ ?_⟩
      · rintro j v H5 hj ⟨cs, s5, e5, hcl, hcs⟩
        obtain ⟨b, hb, rfl⟩ := refs_get hj
        obtain ⟨t, l, hp, hbe⟩ := hR j b hb
        have hjl := (List.getElem?_eq_some_iff.mp hp).1
        refine ⟨b, _, rfl, .of (s5 _ _ (s4 _ _ hbe)), rfl, _, _, rfl, _, _, rfl, rfl, rfl, _, rfl, _, rfl, by show 2 ≤ sizeLine; decide, fun p hp0 => ?_⟩
        have s6 := same_new (o := .tup [.int t, .int l]) hp0
        have nEp : E1 ≠ p := fun z => by rw [z, hp0] at e5; cases e5
        refine ⟨_, s6 _ _ e5, by rw [List.length_map, hcl]; exact Nat.lt_of_le_of_lt (show j ≤ 1000 by omega) (by decide), cs ++ [p], fun d u hd => ?_, by rw [upd_same, List.map_append]; rfl, by rw [List.length_append, hcl]; rfl, fun m b' hm => ?_⟩
        · rw [upd_ne (ne_of_none hd hE)]
          exact s6 _ _ (s5 _ _ hd)
        · rcases snoc_get hm with ⟨h0, h1⟩ | ⟨h1, h2⟩
          · obtain ⟨t', l', g1, g2⟩ := hcs m b' h1
            exact ⟨t', l', g1, tup_upd (s6 _ _ e5) _ _ (s6 _ _ g2)⟩
          · subst h2
            rw [h1, hcl]
            exact ⟨t, l, hp, tup_upd (s6 _ _ e5) _ _ upd_same⟩
      · rintro H5 ⟨cs, s5, e5, hcl, hcs⟩
        rw [hbl2] at hcl
        refine ⟨E1, _, rfl, .inl ⟨.of e5, fun t ht => ?_⟩⟩
        have s6 := same_new (o := .tup (cs.map V.ref)) ht
        have e56 := s6 _ _ (s5 _ _ e4)
        have hal := R4.len
        rw [List.length_take] at hal
        refine ⟨_, e56, by rw [List.length_map]; exact Nat.lt_of_le_of_lt (show as2.length ≤ 1000 by omega) (by decide), as2 ++ [t], fun d u hd => ?_, by rw [upd_same, List.map_append]; rfl, ?_⟩
        · rw [upd_ne (ne_of_none hd hD)]
          exact s6 _ _ (s5 _ _ (s4 _ _ hd))
        · rw [take_get hrow]
          refine RP.keepT (tup_upd e56) (My.RP.snoc (R4.same (s5.trans s6)) (bs := cs) upd_same hcl fun m b hb => ?_)
          obtain ⟨t', l', g1, g2⟩ := hcs m b hb
          exact ⟨t', l', g1, s6 _ _ g2⟩
    · rintro H4 ⟨as2, s4, e4, R4⟩
      rw [hl2, List.take_length] at R4
      refine ⟨D, _, rfl, .inl ⟨.of e4, fun rt hrt => ?_⟩⟩
      have s5 := same_new (o := .tup (as2.map V.ref)) hrt
      have x4 := s5 _ _ (s4 _ _ x3)
      refine ⟨_, rfl, x, C, dx, _, rfl, x4, PC.cl, PC.nr, pl_lt (pl_next (pl_next (pl_next (pl_next pl_0)))) (by decide), q2 hV _ ?_ ⟨dx, ot, rt, as2, upd_same, ?_, ?_, ?_⟩⟩
      · intro b u nb hb
        rw [upd_ne nb]
        exact s5 _ _ (s4 _ _ (k0C _ _ nb hb))
      · show _ = _
        rw [upd_ne nxo.symm]
        exact s5 _ _ (s4 _ _ t3)
      · rw [upd_ne (fun z => by rw [← z, upd_same] at x4; cases x4), upd_same]
      · exact My.RP.kp (fun ys => ⟨fun z => (by rw [x4] at z; cases z), fun z => by rw [x4] at z; cases z⟩) Kp.own (R4.same s5)
theorem cut_drop (xs : List V) (n : Nat) : cutV xs (some (n : Int)) none = xs.drop n := by
  unfold cutV
  rw [HT.sIx_none, HT.sIx_nat]
  rcases Nat.le_total n xs.length with c | c
  · rw [Nat.min_eq_left c, List.take_of_length_le (by rw [List.length_drop]; exact Nat.le_refl _)]
  · rw [Nat.min_eq_right c, List.drop_of_length_le (Nat.le_refl _), List.drop_of_length_le c, List.take_nil]
theorem cut_take (xs : List V) (n : Nat) : cutV xs none (some (n : Int)) = xs.take n := by
  unfold cutV
  rw [HT.sIx_none, HT.sIx_nat, List.drop_zero, Nat.sub_zero]
  rcases Nat.le_total n xs.length with c | c
  · rw [Nat.min_eq_left c]
  · rw [Nat.min_eq_right c, List.take_of_length_le c, List.take_of_length_le (Nat.le_refl _)]
theorem cal_draws (T : Txt K mg) : C8.Cal P w K mg base 1 "_law_draws" (spDraws K) [] := by
  obtain ⟨f, fd, F, hm, hb⟩ := T.h_law_draws
  refine ⟨f, fd, _, [], F.ok sc_law_draws (fun vs H Q E h => ?_) (fun cdv A outer s H vs Q E hr h => ?_), hm, F.kp, hb, .nil⟩
  · obtain ⟨a, ns, c, rfl, _⟩ := h
    rfl
  · obtain ⟨a, ns, n, rfl, hS, hn, q⟩ := h
    refine ⟨_, (pss_cons
      (ps_set (i := 2) sc_law_draws.nd rfl (Or.inl rfl) (pe_callTy (call_list_ofK (K := K) rfl) (by rfl) T.z_list (by decide +kernel) (pa_cons (pv 0) pa_nil)))
      (C8.pss_cut
      (ps_if (pt_cmpR op_eq (pe_callB (call_lenK (K := K) rfl) (by rfl) T.z_len PySem.boot_len (pa_cons (pv 2) pa_nil)) pe_int (nomark _)) (pss_one
      (ps_set (i := 2) sc_law_draws.nd rfl (Or.inl rfl) (pe_lst (pa_cons pe_int pa_nil)))) pss_nil)
      (pss_cons
      (ps_set (i := 3) sc_law_draws.nd rfl (Or.inl rfl) (pe_lst pa_nil))
      (pss_cons
      (ps_set (i := 4) sc_law_draws.nd rfl (Or.inl rfl) pe_int)
      (pss_cons
      (ps_for PassesOwn.never rfl (pi_range1 (by rfl) T.z_range (pa_cons (pv 1) pa_nil)) (pg_name (i := 5) sc_law_draws.nd rfl (.inl rfl)) (pss_cons
      (ps_set (i := 6) sc_law_draws.nd rfl (Or.inl rfl) (pe_op op_mod (pv 5) (pe_callB (call_lenK (K := K) rfl) (by rfl) T.z_len PySem.boot_len (pa_cons (pv 2) pa_nil))))
      (pss_cons
      (ps_set (i := 7) sc_law_draws.nd rfl (Or.inl rfl) (pe_ix (ix_listK (K := K) rfl) (pv 2) (pv 6) (fun _ _ => rfl)))
      (pss_cons
      (ps_set (i := 4) sc_law_draws.nd rfl (Or.inl rfl) (pe_op op_mod (pe_callTy call_int1 (by rfl) T.z_int (by decide +kernel) (pa_cons (pe_op op_add (pe_op op_add (pe_op op_add (pe_op op_mul (pv 4) pe_int) (pe_op op_mul (pe_op op_mod (pe_callTy call_int1 (by rfl) T.z_int (by decide +kernel) (pa_cons (pv 7) pa_nil)) pe_int) pe_int)) (pe_op op_mul (pv 5) pe_int)) pe_int) pa_nil)) pe_int))
      (pss_cons
      (ps_set (i := 8) sc_law_draws.nd rfl (Or.inl rfl) (pe_op op_mod (pe_callTy call_int1 (by rfl) T.z_int (by decide +kernel) (pa_cons (pe_op op_add (pe_op op_add (pe_op op_mul (pv 4) (pv 4)) (pe_op op_mul pe_int (pv 4))) (pv 5)) pa_nil)) pe_int))
      (pss_one
      (ps_if (pt_cmpR op_ge (pv 7) (pe_op op_pow pe_int pe_int) (nomark _)) (pss_cons
      (ps_expr (pe_bm PySem.F.plainAttrs_list PySem.F.slot_list_append PySem.F.type_list_append mt_append (pv 3) (pa_cons (pe_op op_mod (pe_callTy call_int1 (by rfl) T.z_int (by decide +kernel) (pa_cons (pv 7) pa_nil)) pe_int) pa_nil)))
      (pss_one
      (ps_asg (pe_op op_fdiv (pv 7) pe_int) (pg_sub (pv 2) (pv 6) set_list)))) (pss_one
      (ps_expr (pe_bm PySem.F.plainAttrs_list PySem.F.slot_list_append PySem.F.type_list_append mt_append (pv 3) (pa_cons (pe_op op_mod (pe_callTy call_int1 (by rfl) T.z_int (by decide +kernel) (pa_cons (pv 8) pa_nil)) pe_int) pa_nil)))))))))))
      (pss_cons
      (ps_expr (pe_bm0 PySem.F.plainAttrs_list PySem.F.slot_list_reverse PySem.F.type_list_reverse mt_reverse (pv 3)))
      (pss_one
      (ps_ret (pv 3))))))))), ?_⟩
    -- cells = list(script)
    refine ⟨_, rfl, a, _, rfl, .inl hS, fun l hl => ?_⟩
    -- if len(cells) == 0: cells = [7]
    refine ⟨fun σ H2 => ∃ (c : Addr) (cs : List Int), σ = [some (.ref a), some (.int n), some (.ref c), none, none, none, none, none, none] ∧ H c = none ∧ Same H H2 ∧ H2 c = some (.lst (cs.map V.int)) ∧ cs ≠ [], ?_, ?_⟩
    · have h0 : (upd H l (.lst (ns.map V.int))) l = some (.lst (ns.map V.int)) := upd_same
      walk_at "bx"
      refine ite2 (fun e => ?_) (fun e => ?_)
      · refine ⟨by show 1 ≤ sizeLine; decide, fun l2 h2 => ?_⟩
        have s1 : Same H (upd H l (.lst (ns.map V.int))) := same_new hl
        exact ⟨l2, [7], rfl, s1.free h2, s1.trans (same_new h2), upd_same, by decide⟩
      · exact ⟨l, ns, rfl, hl, same_new hl, upd_same, fun z => e (by rw [z]; rfl)⟩
    · rintro σ H2 ⟨c, cs, rfl, hc0, s2, hc, hcs⟩
      -- found = [], mixed = 12345
      refine ⟨Nat.zero_le _, fun o ho => ?_⟩
      have hco : c ≠ o := ne_of_none hc ho
      have ho0 : H o = none := s2.free ho
      -- for k in range(count)
      refine ⟨_, rfl, _, rfl, by omega, by omega, for_range (lo := 0) (n := ((n : Int)).toNat) (fun i σ H3 => ∃ (m : Int) (cs fs : List Int) (v5 v6 v7 v8 : Option V), σ = [some (.ref a), some (.int n), some (.ref c), some (.ref o), some (.int m), v5, v6, v7, v8] ∧ 0 ≤ m ∧ m < 2147483647 ∧ Same H H3 ∧ H3 c = some (.lst (cs.map V.int)) ∧ cs ≠ [] ∧ H3 o = some (.lst (fs.map V.int)) ∧ fs.length ≤ i)
        ⟨12345, cs, [], none, none, none, none, rfl, by decide, by decide, s2.trans (same_new ho), by rw [upd_ne hco]; exact hc, hcs, upd_same, Nat.le_refl _⟩ ?_ ?_⟩
      · rintro i σ H3 hi ⟨m, cs, fs, v5, v6, v7, v8, rfl, m0, m1, s3, hc, hcs, hf, hfl⟩
        have hl : 0 < cs.length := List.length_pos_iff.mpr hcs
        obtain ⟨z, hz⟩ : ∃ z, cs[i % cs.length]? = some z := ⟨_, List.getElem?_eq_getElem (Nat.mod_lt _ hl)⟩
        have ej : ((0 : Int) + (i : Int)) % (((cs.map V.int).length : Nat) : Int) = ((i % cs.length : Nat) : Int) := by
          rw [Int.zero_add, List.length_map]
          rfl
        -- j = k % len(cells)
        walk_at "bx"
        refine ⟨(show (0 : Int) < _ by rw [List.length_map]; omega), ?_⟩
        -- cell = cells[j]
        refine ⟨_, rfl, _, rfl, c, _, _, .int z, rfl, rfl, SqL.of hc, ?_, ?_⟩
        · rw [ej]
          exact atI_nat (by rw [List.getElem?_map, hz]; rfl)
        -- mixed, again
        walk_at "bx"
        have b1 : (0 : Int) ≤ z % 1000003 := Int.emod_nonneg _ (by decide)
        refine ⟨.inl ⟨?_, ?_⟩, ?_⟩
        · have := Int.emod_nonneg (m * 48271 + z % 1000003 * 69621 + (0 + (i : Int)) * 7919 + 11) (show (2147483647 : Int) ≠ 0 by decide)
          show -(2 ^ 64) < (m * 48271 + z % 1000003 * 69621 + (0 + (i : Int)) * 7919 + 11) % 2147483647
          omega
        · have := Int.emod_lt_of_pos (m * 48271 + z % 1000003 * 69621 + (0 + (i : Int)) * 7919 + 11) (show (0 : Int) < 2147483647 by decide)
          show (m * 48271 + z % 1000003 * 69621 + (0 + (i : Int)) * 7919 + 11) % 2147483647 < 2 ^ 64
          omega
        have c0 : 0 ≤ (m * 48271 + z % 1000003 * 69621 + (0 + (i : Int)) * 7919 + 11) % 2147483647 := Int.emod_nonneg _ (by decide)
        have c1 : (m * 48271 + z % 1000003 * 69621 + (0 + (i : Int)) * 7919 + 11) % 2147483647 < 2147483647 := Int.emod_lt_of_pos _ (by decide)
        walk_at "bx"
        refine ite2 (fun e => ?_) (fun e => ?_)
        · walk_at "bx"
          refine ⟨lenI (by omega), ?_⟩
          walk_at "bx"
          refine ⟨c, cs.map V.int, _, i % cs.length, rfl, rfl, by rw [upd_ne hco]; exact hc, by rw [ej]; exact ixN_at (by rw [List.length_map]; exact Nat.mod_lt _ hl), ?_⟩
          refine ⟨_, cs.set (i % cs.length) (z / 1000), fs ++ [z % 1000], _, _, _, _, rfl, c0, c1, fun b o' hb => ?_, by rw [upd_same, set_mapI], by simpa using hcs, by rw [upd_ne hco.symm, upd_same]; simp, by simp; omega⟩
          rw [upd_ne (fun z => by rw [z, hc0] at hb; cases hb), upd_ne (fun z => by rw [z, ho0] at hb; cases hb)]
          exact s3 _ _ hb
        · walk_at "bx"
          refine ⟨lenI (by omega), ?_⟩
          refine ⟨_, cs, fs ++ [_], _, _, _, _, rfl, c0, c1, fun b o' hb => ?_, by rw [upd_ne hco]; exact hc, hcs, by rw [upd_same, List.map_append]; rfl, by simp; omega⟩
          rw [upd_ne (fun z => by rw [z, ho0] at hb; cases hb)]
          exact s3 _ _ hb
      · rintro σ H3 ⟨m, cs, fs, v5, v6, v7, v8, rfl, m0, m1, s3, hc, hcs, hf, hfl⟩
        -- found.reverse()
        walk_at "bx"
        refine q _ o (fun b o' hb => ?_) ho0 ⟨fs.reverse, ?_⟩
        · rw [upd_ne (fun z => by rw [z, ho0] at hb; cases hb)]
          exact s3 _ _ hb
        · rw [upd_same, List.map_reverse]
theorem cal_take (T : Txt K mg) : C8.Cal P w K mg base 1 "_law_take" spTake [] := by
  obtain ⟨f, fd, F, hm, hb⟩ := T.h_law_take
  refine ⟨f, fd, _, [], F.ok sc_law_take (fun vs H Q E h => ?_) (fun cdv A outer s H vs Q E hr h => ?_), hm, F.kp, hb, .nil⟩
  · obtain ⟨d, n, rfl, _⟩ := h
    rfl
  · obtain ⟨d, n, rfl, ⟨ds, hd⟩, hn, q⟩ := h
    refine ⟨_, (pss_cons
      (ps_if (pt_cmpR op_eq (pe_callB (call_lenK (K := K) rfl) (by rfl) T.z_len PySem.boot_len (pa_cons (pv 0) pa_nil)) pe_int (nomark _)) (pss_one
      (ps_ret pe_int)) pss_nil)
      (pss_one
      (ps_ret (pe_op op_mod (pe_callTy call_int1 (by rfl) T.z_int (by decide +kernel) (pa_cons (pe_bm0 PySem.F.plainAttrs_list PySem.F.slot_list_pop PySem.F.type_list_pop mt_pop (pv 0)) pa_nil)) (pv 1))))), ?_⟩
    walk_at "bx"
    refine ite2 (fun e => ?_) (fun e => ?_)
    · have q0 := q 0 ds (Int.le_refl 0) hn
      rw [upd_self hd] at q0
      exact q0
    · have hne : ds ≠ [] := fun z => e (by rw [z]; rfl)
      refine ⟨_, rfl, .inl ⟨rfl, _, SqL.of hd⟩, d, _, .int (ds.getLast hne), rfl, rfl, hd, ?_, ?_⟩
      · rw [List.length_map, List.getElem?_map, ← List.getLast?_eq_getElem?, List.getLast?_eq_getLast hne]
        rfl
      · walk_at "bx"
        rw [← List.map_dropLast]
        exact q _ _ (Int.emod_nonneg _ (by omega)) (Int.emod_lt_of_pos _ hn)
theorem RP.keep {mk : List V → HO} {H H' : Hp} {as : List Addr} {c : List (List (Int × Int))} (h : RP mk H as c) (k1 : ∀ a ∈ as, ∀ o, H a = some o → H' a = some o) (k2 : ∀ b xs, H b = some (.tup xs) → H' b = some (.tup xs)) : RP mk H' as c := ⟨h.len, fun i a e => by
  obtain ⟨bs, row, h1, h2, h3, h4⟩ := h.g i a e
  exact ⟨bs, row, h1, k1 a (List.mem_of_getElem? e) _ h2, h3, fun j b hb => by obtain ⟨t, l, h5, h6⟩ := h4 j b hb; exact ⟨t, l, h5, k2 _ _ h6⟩⟩⟩
theorem kp_tup {d : Addr} {H H' : Hp} (hd : Drw H d) (k : Kp d H H') : ∀ (b : Addr) (xs : List V), H b = some (.tup xs) → H' b = some (.tup xs) := fun b xs hb => k _ _ (hd.ne_tup hb) hb
def spMach : Sp := fun vs H Q _ => ∃ (d : Addr) (I O L : Int) (m : Nat), vs = [.ref d, .int I, .int O, .int L, .int m] ∧ Drw H d ∧ 1 ≤ I ∧ I ≤ 100 ∧ 1 ≤ O ∧ -3 ≤ L ∧ L ≤ 2 ∧ 1 ≤ m ∧ m ≤ 100 ∧
  ∀ (H' : Hp) (t oa r : Addr) (as : List Addr) (op : List Int) (c : List (List (Int × Int))), Kp d H H' → Drw H' d → H' t = some (.tup [.ref oa, .ref r]) → H' oa = some (.lst (op.map V.int)) → LPr H' r as c → d ≠ oa → d ≠ r → (∀ a ∈ as, a ≠ d) → Vm I O L op c → c.length ≤ m → Q (.ref t) H'
theorem cal_mach (T : Txt K mg) : C8.Cal P w K mg base 2 "_law_machine" spMach [] := by
  have C_law_take : C8.Cal P w K mg base 1 "_law_take" spTake [] := cal_take T
  obtain ⟨f, fd, F, hm, hb⟩ := T.h_law_machine
  refine ⟨f, fd, _, [], F.ok sc_law_machine (fun vs H Q E h => ?_) (fun cdv A outer s H vs Q E hr h => ?_), hm, F.kp, hb, .nil⟩
  · obtain ⟨d, I, O, L, m, rfl, _⟩ := h
    rfl
  · obtain ⟨d, I, O, L, m, rfl, hd, i1, i2, o1, l0, l1, m1, m2, q⟩ := h
    refine ⟨_, (pss_cons
      (ps_set (i := 5) sc_law_machine.nd rfl (Or.inl rfl) (pe_op op_add pe_int (C8.pe_c C_law_take hr (by decide) (by rfl) (pa_cons (pv 0) (pa_cons (pv 4) pa_nil)))))
      (pss_cons
      (ps_setLc (i := 6) (own := [("k", 12)]) (g := gName 12) (tt := tYes) rfl sc_law_machine.nd rfl rfl (sw_true rfl rfl rfl (by decide +kernel)) (pi_range1 (by rfl) T.z_range (pa_cons (pe_callB (call_max2 rfl) (by rfl) T.z_max (by decide +kernel) (pa_cons pe_int (pa_cons (pe_un un_neg (pv 3)) pa_nil))) pa_nil)) (blkOk_by (N := N_law_machine) (sc := defScope s_law_machine) (by decide +kernel)) (fun _ _ _ _ _ => (pg_name (i := 12) sc_law_machine.nd rfl (Or.inl rfl))) (fun _ _ _ _ _ => pts_nil) (fun _ _ _ _ _ => (C8.pe_c C_law_take hr (by decide) (by rfl) (pa_cons (pv 0) (pa_cons (pv 2) pa_nil)))))
      (pss_cons
      (ps_set (i := 7) sc_law_machine.nd rfl (Or.inl rfl) (pe_lst pa_nil))
      (pss_cons
      (ps_for PassesOwn.never rfl (pi_range1 (by rfl) T.z_range (pa_cons (pv 5) pa_nil)) (pg_name (i := 8) sc_law_machine.nd rfl (.inl rfl)) (pss_cons
      (ps_set (i := 9) sc_law_machine.nd rfl (Or.inl rfl) (pe_lst pa_nil))
      (pss_cons
      (ps_for PassesOwn.never rfl (pi_range1 (by rfl) T.z_range (pa_cons (pv 1) pa_nil)) (pg_name (i := 10) sc_law_machine.nd rfl (.inl rfl)) (pss_cons
      (ps_set (i := 11) sc_law_machine.nd rfl (Or.inl rfl) (C8.pe_c C_law_take hr (by decide) (by rfl) (pa_cons (pv 0) (pa_cons (pv 5) pa_nil))))
      (pss_one
      (ps_expr (pe_bm PySem.F.plainAttrs_list PySem.F.slot_list_append PySem.F.type_list_append mt_append (pv 9) (pa_cons (pe_tup (pa_cons (pv 11) (pa_cons (C8.pe_c C_law_take hr (by decide) (by rfl) (pa_cons (pv 0) (pa_cons (pv 2) pa_nil))) pa_nil))) pa_nil))))))
      (pss_one
      (ps_expr (pe_bm PySem.F.plainAttrs_list PySem.F.slot_list_append PySem.F.type_list_append mt_append (pv 7) (pa_cons (pv 9) pa_nil)))))))
      (pss_one
      (ps_ret (pe_tup (pa_cons (pv 6) (pa_cons (pv 7) pa_nil))))))))), ?_⟩
    refine ⟨_, rfl, _, rfl, d, m, rfl, hd, by omega, fun cn ds c0 c1 => ?_⟩
    have d1 : Drw (upd H d (.lst (ds.map V.int))) d := Drw.own
    have k1 : Kp d H (upd H d (.lst (ds.map V.int))) := Kp.own
    generalize upd H d (.lst (ds.map V.int)) = H1 at d1 k1 ⊢
    refine ⟨_, _, rfl, rfl, ?_⟩
    have emx : (if -L > 0 then -L else 0) = (((max 0 (-L)).toNat : Nat) : Int) := by split <;> omega
    refine ⟨_, rfl, _, rfl, _, _, rfl, _, rfl, by rw [emx]; omega, by rw [emx]; omega, fun OA hOA => ?_⟩
    rw [emx, Int.toNat_natCast]
    have nOd : OA ≠ d := fun z => by obtain ⟨o, y⟩ := d1; rw [← z, hOA] at y; cases y
    refine lc_range (lo := 0) (n := (max 0 (-L)).toNat) (fun i H' => ∃ xs : List Int, Kp d H1 H' ∧ Drw H' d ∧ H' OA = some (.lst (xs.map V.int)) ∧ xs.length = i ∧ ∀ z ∈ xs, 0 ≤ z ∧ z < O)
      ⟨[], Kp.new hOA, d1.new hOA, upd_same, rfl, by simp⟩ ?_ ?_
    · rintro i H2 hi ⟨xs, k2, d2, e2, xl, hx⟩
      refine ⟨rfl, _, rfl, _, rfl, d, O, rfl, d2, by omega, fun u us u0 u1 => ?_⟩
      have e3 : (upd H2 d (.lst (us.map V.int))) OA = some (.lst (xs.map V.int)) := by rw [upd_ne nOd]; exact e2
      have k3 : Kp d H1 (upd H2 d (.lst (us.map V.int))) := k2.trans Kp.own
      have d3 : Drw (upd H2 d (.lst (us.map V.int))) d := Drw.own
      generalize upd H2 d (.lst (us.map V.int)) = H3 at e3 k3 d3 ⊢
      refine ⟨_, e3, lenI (by omega), xs ++ [u], fun b o nb hb => ?_, ?_, by rw [upd_same, List.map_append]; rfl, by rw [List.length_append, xl]; rfl, fun z hz => ?_⟩
      · rw [upd_ne (ne_of_none hb hOA)]
        exact k3 _ _ nb hb
      · obtain ⟨o, y⟩ := d3
        exact ⟨o, by rw [upd_ne nOd.symm]; exact y⟩
      · rcases List.mem_append.mp hz with y | y
        · exact hx z y
        · rw [List.mem_singleton.mp y]; exact ⟨u0, u1⟩
    rintro H2 ⟨op, k2, d2, e2, opl, hop⟩
    have k02 := k1.trans k2
    refine ⟨Nat.zero_le _, fun R hR => ?_⟩
    have nRd : R ≠ d := fun z => by obtain ⟨o, y⟩ := d2; rw [← z, hR] at y; cases y
    have nRO : R ≠ OA := fun z => by rw [z, e2] at hR; cases hR
    have s3 := same_new (o := .lst []) hR
    have e3 := upd_same (H := H2) (a := R) (o := .lst [])
    generalize upd H2 R (.lst []) = H3 at s3 e3 ⊢
    have d3 := d2.same s3
    have eo3 := s3 _ _ e2
    have k03 : Kp d H H3 := k02.trans (Same.kp s3)
    have hcn : (1 + cn).toNat ≤ m := by omega
    refine ⟨_, rfl, _, rfl, by omega, by omega, for_range (lo := 0) (n := (1 + cn).toNat) (fun i σ H' => ∃ (v8 v9 v10 v11 v12 : Option V) (as : List Addr) (c : List (List (Int × Int))), σ = [some (.ref d), some (.int I), some (.int O), some (.int L), some (.int m), some (.int (1 + cn)), some (.ref OA), some (.ref R), v8, v9, v10, v11, v12] ∧ Kp d H H' ∧ Drw H' d ∧ H' OA = some (.lst (op.map V.int)) ∧ H' R = some (.lst (as.map V.ref)) ∧ RP .lst H' as c ∧ c.length = i ∧
      (∀ r ∈ c, (r.length : Int) = I ∧ ∀ p ∈ r, 0 ≤ p.1 ∧ p.1 < 1 + cn ∧ 0 ≤ p.2 ∧ p.2 < O) ∧ ∀ a ∈ as, a ≠ d ∧ a ≠ R)
      ⟨_, _, _, _, _, [], [], rfl, k03, d3, eo3, e3, My.RP.nil, rfl, by simp, by simp⟩ ?_ ?_⟩
    · clear k03 d3 eo3 s3 e3 k1 k2 d1 d2
      rintro i σ H4 hi ⟨v8, v9, v10, v11, v12, as, c, rfl, k4, d4, eo4, eR4, R4, hcl, hcw, has⟩
      have hal := R4.len
      refine ⟨Nat.zero_le _, fun ra hra => ?_⟩
      have nad : ra ≠ d := fun z => by obtain ⟨o, y⟩ := d4; rw [← z, hra] at y; cases y
      have naR : ra ≠ R := fun z => by rw [z, eR4] at hra; cases hra
      have naO : ra ≠ OA := fun z => by rw [z, eo4] at hra; cases hra
      have naa : ∀ a ∈ as, a ≠ ra := fun a ha z => by
        obtain ⟨j, hj⟩ := List.mem_iff_getElem?.mp ha
        obtain ⟨bs, row, _, h2, _⟩ := R4.g j a hj
        rw [z, hra] at h2
        cases h2
      have hraH : H ra = none := by
        cases e : H ra with
        | none => rfl
        | some o => rw [k4 _ _ nad e] at hra; cases hra
      have s5 := same_new (o := .lst []) hra
      have e5 := upd_same (H := H4) (a := ra) (o := .lst [])
      generalize upd H4 ra (.lst []) = H5 at s5 e5 ⊢
      refine ⟨_, rfl, _, rfl, by omega, by omega, for_range (lo := 0) (n := I.toNat) (fun j σ H' => ∃ (v10 v11 v12 : Option V) (bs : List Addr) (row : List (Int × Int)), σ = [some (.ref d), some (.int I), some (.int O), some (.int L), some (.int m), some (.int (1 + cn)), some (.ref OA), some (.ref R), some (.int (0 + (i : Int))), some (.ref ra), v10, v11, v12] ∧ Kp d H H' ∧ Drw H' d ∧ H' OA = some (.lst (op.map V.int)) ∧ H' R = some (.lst (as.map V.ref)) ∧ RP .lst H' as c ∧
        H' ra = some (.lst (bs.map V.ref)) ∧ bs.length = j ∧ row.length = j ∧ (∀ p ∈ row, 0 ≤ p.1 ∧ p.1 < 1 + cn ∧ 0 ≤ p.2 ∧ p.2 < O) ∧ ∀ (k : Nat) (b : Addr), bs[k]? = some b → ∃ t l, row[k]? = some (t, l) ∧ H' b = some (.tup [.int t, .int l]))
        ⟨_, _, _, [], [], rfl, k4.trans (Same.kp s5), d4.same s5, s5 _ _ eo4, s5 _ _ eR4, R4.same s5, e5, rfl, rfl, by simp, fun k b e => by cases e⟩ ?_ ?_⟩
      · clear s5 e5 d4 eo4 eR4 R4
        rintro j σ H6 hj ⟨v10, v11, v12, bs, row, rfl, k6, d6, eo6, eR6, R6, er6, hbl, hrl, hrw, hbs⟩
        refine ⟨_, rfl, _, rfl, d, 1 + cn, rfl, d6, by omega, fun t ts t0 t1 => ?_⟩
        have tk7 := kp_tup d6 (Kp.own (H := H6) (d := d) (o := .lst (ts.map V.int)))
        have k7 : Kp d H6 (upd H6 d (.lst (ts.map V.int))) := Kp.own
        have d7 : Drw (upd H6 d (.lst (ts.map V.int))) d := Drw.own
        generalize upd H6 d (.lst (ts.map V.int)) = H7 at tk7 k7 d7 ⊢
        refine ⟨_, rfl, .inl ⟨rfl, _, .of (k7 _ _ nad er6)⟩, ?_⟩
        refine ⟨_, rfl, _, rfl, _, rfl, d, O, rfl, d7, by omega, fun l ls l0' l1' => ?_⟩
        have tk8 := kp_tup d7 (Kp.own (H := H7) (d := d) (o := .lst (ls.map V.int)))
        have k8 : Kp d H7 (upd H7 d (.lst (ls.map V.int))) := Kp.own
        have d8 : Drw (upd H7 d (.lst (ls.map V.int))) d := Drw.own
        generalize upd H7 d (.lst (ls.map V.int)) = H8 at tk8 k8 d8 ⊢
        have k68 := k7.trans k8
        refine ⟨by show 2 ≤ sizeLine; decide, fun p hp => ?_⟩
        have s9 := same_new (o := .tup [.int t, .int l]) hp
        have e9 := upd_same (H := H8) (a := p) (o := .tup [.int t, .int l])
        generalize upd H8 p (.tup [.int t, .int l]) = H9 at s9 e9 ⊢
        have er9 := s9 _ _ (k68 _ _ nad er6)
        refine ⟨ra, _, _, rfl, rfl, er9, by rw [List.length_map, hbl]; exact Nat.lt_of_le_of_lt (show j ≤ 1000 by omega) (by decide), ?_⟩
        have kk : Kp ra H9 (upd H9 ra (.lst (bs.map V.ref ++ [.ref p]))) := Kp.own
        have tkk := tup_upd (o := .lst (bs.map V.ref ++ [.ref p])) er9
        have ekk := upd_same (H := H9) (a := ra) (o := .lst (bs.map V.ref ++ [.ref p]))
        generalize upd H9 ra (.lst (bs.map V.ref ++ [.ref p])) = HA at kk tkk ekk ⊢
        have T6A : ∀ b xs, H6 b = some (.tup xs) → HA b = some (.tup xs) := fun b xs hb => tkk _ _ (s9 _ _ (tk8 _ _ (tk7 _ _ hb)))
        have K6A : ∀ a, a ≠ d → a ≠ ra → ∀ o, H6 a = some o → HA a = some o := fun a n1 n2 o ho => kk _ _ n2 (s9 _ _ (k68 _ _ n1 ho))
        refine ⟨_, _, _, bs ++ [p], row ++ [(t, l)], rfl, fun b o nb hb => ?_, ?_, K6A _ nOd naO.symm _ eo6, K6A _ nRd naR.symm _ eR6, My.RP.keep R6 (fun a ha => K6A a (has a ha).1 (naa a ha)) T6A, by rw [ekk, List.map_append]; rfl, by rw [List.length_append, hbl]; rfl, by rw [List.length_append, hrl]; rfl, fun z hz => ?_, fun k b hk => ?_⟩
        · exact kk _ _ (ne_of_none hb hraH) (s9 _ _ (k68 _ _ nb (k6 _ _ nb hb)))
        · obtain ⟨o, y⟩ := d8
          exact ⟨o, kk _ _ nad.symm (s9 _ _ y)⟩
        · rcases List.mem_append.mp hz with y | y
          · exact hrw z y
          · rw [List.mem_singleton.mp y]; exact ⟨t0, t1, l0', l1'⟩
        · rcases snoc_get hk with ⟨h0, h1⟩ | ⟨h1, h2⟩
          · obtain ⟨t', l', g1, g2⟩ := hbs k b h1
            exact ⟨t', l', by rw [List.getElem?_append_left (by omega)]; exact g1, T6A _ _ g2⟩
          · subst h2
            exact ⟨t, l, by rw [List.getElem?_append_right (by omega), show k - row.length = 0 by omega]; rfl, tkk _ _ e9⟩
      · rintro σ H6 ⟨v10, v11, v12, bs, row, rfl, k6, d6, eo6, eR6, R6, er6, hbl, hrl, hrw, hbs⟩
        refine ⟨_, rfl, .inl ⟨rfl, _, .of eR6⟩, _, rfl, R, _, _, rfl, rfl, eR6, by rw [List.length_map]; exact Nat.lt_of_le_of_lt (show as.length ≤ 1000 by omega) (by decide), ?_⟩
        have hRH : H R = none := by
          cases e : H R with
          | none => rfl
          | some o => rw [k02 _ _ nRd e] at hR; cases hR
        have kk : Kp R H6 (upd H6 R (.lst (as.map V.ref ++ [.ref ra]))) := Kp.own
        have tkk := tup_upd (o := .lst (as.map V.ref ++ [.ref ra])) eR6
        have ekk := upd_same (H := H6) (a := R) (o := .lst (as.map V.ref ++ [.ref ra]))
        generalize upd H6 R (.lst (as.map V.ref ++ [.ref ra])) = H7 at kk tkk ekk ⊢
        refine ⟨_, _, _, _, _, as ++ [ra], c ++ [row], rfl, fun b o nb hb => kk _ _ (ne_of_none hb hRH) (k6 _ _ nb hb), ?_, kk _ _ nRO.symm eo6, by rw [ekk, List.map_append]; rfl, ?_, by rw [List.length_append, hcl]; rfl, fun r hr => ?_, fun a ha => ?_⟩
        · obtain ⟨o, y⟩ := d6
          exact ⟨o, kk _ _ nRd.symm y⟩
        · exact My.RP.snoc (My.RP.keep R6 (fun a ha o h => kk _ _ (has a ha).2 h) tkk) (kk _ _ naR er6) (by omega) fun k b hb => by obtain ⟨t, l, g1, g2⟩ := hbs k b hb; exact ⟨t, l, g1, tkk _ _ g2⟩
        · rcases List.mem_append.mp hr with y | y
          · exact hcw r y
          · rw [List.mem_singleton.mp y]; exact ⟨by omega, hrw⟩
        · rcases List.mem_append.mp ha with y | y
          · exact has a y
          · rw [List.mem_singleton.mp y]; exact ⟨nad, naR⟩
    · rintro σ H4 ⟨v8, v9, v10, v11, v12, as, c, rfl, k4, d4, eo4, eR4, R4, hcl, hcw, has⟩
      refine ⟨_, rfl, _, rfl, by show 2 ≤ sizeLine; decide, fun t ht => ?_⟩
      have s5 := same_new (o := .tup [.ref OA, .ref R]) ht
      refine q _ t OA R as op c (k4.trans (Same.kp s5)) (d4.same s5) upd_same (s5 _ _ eo4) ⟨s5 _ _ eR4, R4.same s5⟩ nOd.symm nRd.symm (fun a ha => (has a ha).1) ⟨i1, o1, l0, l1, by omega, fun z => by rw [z] at hcl; simp at hcl; omega, fun r hr => (hcw r hr).1, fun r hr p hp => ?_, hop, fun r hr p hp => ?_⟩ (by omega)
      · obtain ⟨g1, g2, _⟩ := (hcw r hr).2 p hp
        exact ⟨g1, by omega⟩
      · obtain ⟨_, _, g⟩ := (hcw r hr).2 p hp
        exact g
def spFlatM : Sp := fun vs H Q _ => ∃ (r : Addr) (as : List Addr) (c : List (List (Int × Int))), vs = [.ref r] ∧ LPr H r as c ∧ c.length ≤ 1000 ∧
  ∀ (H' : Hp) (r' : Addr) (as' : List Addr), Same H H' → LPr H' r' as' c → H r' = none → (∀ b ∈ as', H b = none ∧ b ≠ r') → Q (.ref r') H'
theorem cal_flatM (T : Txt K mg) : C8.Cal P w K mg base 1 "_law_flat" spFlatM [] := by
  obtain ⟨f, fd, F, hm, hb⟩ := T.h_law_flat
  refine ⟨f, fd, _, [], F.ok sc_law_flat (fun vs H Q E h => ?_) (fun cdv A outer s H vs Q E hr h => ?_), hm, F.kp, hb, .nil⟩
  · obtain ⟨r, as, c, rfl, _⟩ := h
    rfl
  · obtain ⟨r, as, c, rfl, hL, hc, q⟩ := h
    refine ⟨_, (pss_one
      (ps_ret (pe_lc (own := [("row", 1)]) (g := gName 1) (tt := tYes) rfl sc_law_flat.nd (pi_list (pv 0)) (blkOk_by (N := N_law_flat) (sc := defScope s_law_flat) (by decide +kernel)) (fun _ _ _ _ _ => (pg_name (i := 1) sc_law_flat.nd rfl (Or.inl rfl))) (fun _ _ _ _ _ => pts_nil) (fun _ _ _ _ _ => (pe_callTy (call_list_ofK (K := K) rfl) (by rfl) T.z_list (by decide +kernel) (pa_cons (pv 1) pa_nil)))))), ?_⟩
    have hl2 : (as.map V.ref).length = c.length := by rw [List.length_map, hL.2.len]
    refine ⟨_, rfl, r, rfl, ⟨_, .of hL.1⟩, fun D hD => lc_list (K := K) (a := r) (xs := as.map V.ref) (fun i H4 => ∃ as2 : List Addr, Same H H4 ∧ H4 D = some (.lst (as2.map V.ref)) ∧ RP .lst H4 as2 (c.take i) ∧ ∀ b ∈ as2, H b = none ∧ b ≠ D)
      ⟨[], same_new hD, upd_same, My.RP.nil, by simp⟩ (fun i H' _ ⟨_, z, _⟩ => .of (z _ _ hL.1)) ?_ ?_⟩
    · rintro i v H4 hi ⟨as2, s4, e4, R4, hf⟩
      obtain ⟨ra, hra, rfl⟩ := refs_get hi
      obtain ⟨bs, row, hrow, hae, hbl, hR⟩ := hL.2.g i ra hra
      have hil := (List.getElem?_eq_some_iff.mp hrow).1
      refine ⟨rfl, _, rfl, ra, _, rfl, .inl (.of (s4 _ _ hae)), fun t ht => ?_⟩
      have s5 := same_new (o := .lst (bs.map V.ref)) ht
      have e5 := upd_same (H := H4) (a := t) (o := .lst (bs.map V.ref))
      generalize upd H4 t (.lst (bs.map V.ref)) = H5 at s5 e5 ⊢
      have nDt : t ≠ D := fun z => by rw [z, e4] at ht; cases ht
      have hal := R4.len
      rw [List.length_take] at hal
      have eD5 := s5 _ _ e4
      have tu := tup_upd (o := .lst (as2.map V.ref ++ [.ref t])) eD5
      refine ⟨_, eD5, by rw [List.length_map]; exact Nat.lt_of_le_of_lt (show as2.length ≤ 1000 by omega) (by decide), as2 ++ [t], fun d u hd => ?_, by rw [upd_same, List.map_append]; rfl, ?_, fun b hb => ?_⟩
      · rw [upd_ne (ne_of_none hd hD)]
        exact s5 _ _ (s4 _ _ hd)
      · rw [take_get hrow]
        refine My.RP.snoc (My.RP.keep (R4.same s5) (fun b hb o h => by rw [upd_ne (hf b hb).2]; exact h) tu) (bs := bs) (by rw [upd_ne nDt]; exact e5) hbl fun m b hb => ?_
        obtain ⟨t', l', g1, g2⟩ := hR m b hb
        exact ⟨t', l', g1, tu _ _ (s5 _ _ (s4 _ _ g2))⟩
      · rcases List.mem_append.mp hb with y | y
        · exact hf b y
        · rw [List.mem_singleton.mp y]; exact ⟨s4.free ht, nDt⟩
    · rintro H4 ⟨as2, s4, e4, R4, hf⟩
      rw [hl2, List.take_length] at R4
      exact q H4 D as2 s4 ⟨e4, R4⟩ hD hf
theorem nd_of {H : Hp} {b d : Addr} (hd : Drw H d) (h : H b = none) : b ≠ d := fun z => by
  obtain ⟨o, y⟩ := hd
  rw [← z, h] at y
  cases y
theorem sameM_made {C x dx : Addr} {H1 H2 : Hp} (hx : H1 x = none) (hd : H1 dx = none) (k : Kp x (upd (upd H1 dx (.own x)) x (.ins C dx [])) H2) : Same H1 H2 := fun b o hb => by
  have n1 : b ≠ x := fun z => by rw [z, hx] at hb; cases hb
  have n2 : b ≠ dx := fun z => by rw [z, hd] at hb; cases hb
  refine k _ _ n1 ?_
  rw [upd_ne n1, upd_ne n2]
  exact hb
theorem sameM_fresh {C x dx : Addr} {H1 : Hp} (hx : H1 x = none) (hd : H1 dx = none) : Same H1 (upd (upd H1 dx (.own x)) x (.ins C dx [])) := sameM_made hx hd (Kp.refl _ _)
theorem atI_int {xs : List V} {i : Int} {v : V} (h : 0 ≤ i) (e : xs[i.toNat]? = some v) : atI xs i = some v := by
  have := atI_nat (j := i.toNat) e
  rwa [Int.toNat_of_nonneg h] at this
theorem lets_inl {A B : List (List (Int × Int))} {e : Q3} {W : List Q3} {n : Nat} {r : List Int} (h : lets A B e W n = .inl r) : ∀ j, lets A B e W (n + j) = .inl r
  | 0 => h
  | j + 1 => by show lets A B e W ((n + j) + 1) = _; rw [lets, lets_inl h j]
theorem lets_snoc {A B : List (List (Int × Int))} {e : Q3} {W W' : List Q3} {n : Nat} (h : lets A B e W n = .inr W') : lets A B e W (n + 1) = stepL A B e W' n := by rw [lets, h]
abbrev L5 := List (Addr × Addr × Q3)
def qs (L : L5) : List Q3 := L.map (·.2.2)
def ent (x : Addr × Addr × Q3) : List L2.Key × V := ([Sum.inl x.2.2.1.1, Sum.inl x.2.2.1.2], .ref x.2.1)
structure WH (H : Hp) (p q : Addr) (L : L5) : Prop where
  d : H p = some (.dT (L.map ent))
  l : H q = some (.lst (L.map fun x => V.ref x.1))
  t : ∀ x ∈ L, H x.1 = some (.tup [.int x.2.2.1.1, .int x.2.2.1.2])
  w : ∀ x ∈ L, H x.2.1 = some (.lst (x.2.2.2.map V.int))
  nq : ∀ x ∈ L, x.2.1 ≠ q
theorem WH.same {H H' : Hp} {p q : Addr} {L : L5} (s : Same H H') (h : WH H p q L) : WH H' p q L := ⟨s _ _ h.d, s _ _ h.l, fun x hx => s _ _ (h.t x hx), fun x hx => s _ _ (h.w x hx), h.nq⟩
theorem key_inj {a b c d : Int} (h : ([Sum.inl a, Sum.inl b] : List L2.Key) = [Sum.inl c, Sum.inl d]) : (a, b) = (c, d) := by
  have h1 := List.cons.inj h
  have h2 := List.cons.inj h1.2
  rw [Sum.inl.inj h1.1, Sum.inl.inj h2.1]
theorem val_none : ∀ {L : L5} {a b : Int}, (a, b) ∉ (qs L).map (·.1) → valV (L.map ent) [Sum.inl a, Sum.inl b] = none
  | [], _, _, _ => rfl
  | x :: L, a, b, h => by
    have h1 : (a, b) ≠ x.2.2.1 := fun z => h (by rw [z]; exact List.mem_cons_self)
    have h2 : (a, b) ∉ (qs L).map (·.1) := fun z => h (List.mem_cons_of_mem _ z)
    have ih := val_none h2
    unfold valV at ih ⊢
    rw [List.map_cons, List.find?_cons_of_neg (by
      intro z
      exact h1 (key_inj (of_decide_eq_true z)).symm)]
    exact ih
theorem val_some : ∀ {L : L5}, ((qs L).map (·.1)).Nodup → ∀ x ∈ L, valV (L.map ent) [Sum.inl x.2.2.1.1, Sum.inl x.2.2.1.2] = some (.ref x.2.1)
  | [], _, _, h => by cases h
  | y :: L, nd, x, h => by
    have nd : ((y.2.2.1) :: (qs L).map (·.1)).Nodup := nd
    rw [List.nodup_cons] at nd
    unfold valV
    rcases List.mem_cons.mp h with rfl | h
    · rw [List.map_cons, List.find?_cons_of_pos (by exact decide_eq_true rfl)]
      rfl
    · have ih := val_some nd.2 x h
      unfold valV at ih
      rw [List.map_cons, List.find?_cons_of_neg (by
        intro z
        have e := key_inj (of_decide_eq_true z)
        refine nd.1 ?_
        rw [show y.2.2.1 = x.2.2.1 from e]
        exact List.mem_map.mpr ⟨x.2.2, List.mem_map.mpr ⟨x, h, rfl⟩, rfl⟩)]
      exact ih
theorem cellAt {mk : List V → HO} {H : Hp} {as : List Addr} {c : List (List (Int × Int))} {I : Int} (R : RP mk H as c) (hw : ∀ r ∈ c, (r.length : Int) = I) {s l : Int} (s0 : 0 ≤ s) (s1 : s < (c.length : Int)) (l0 : 0 ≤ l) (l1 : l < I) :
    ∃ (a : Addr) (bs : List Addr) (b : Addr), as[s.toNat]? = some a ∧ H a = some (mk (bs.map V.ref)) ∧ bs[l.toNat]? = some b ∧ H b = some (.tup [.int (cellZ c s l).1, .int (cellZ c s l).2]) ∧ ∃ r ∈ c, cellZ c s l ∈ r := by
  have hs : s.toNat < as.length := by rw [R.len]; omega
  obtain ⟨bs, row, h1, h2, h3, h4⟩ := R.g s.toNat as[s.toNat] (List.getElem?_eq_getElem hs)
  have hm := List.mem_of_getElem? h1
  have hl : l.toNat < bs.length := by have := hw row hm; omega
  obtain ⟨t, u, h5, h6⟩ := h4 l.toNat bs[l.toNat] (List.getElem?_eq_getElem hl)
  have ec : cellZ c s l = (t, u) := by
    unfold cellZ
    rw [List.getD_eq_getElem?_getD, List.getD_eq_getElem?_getD, h1]
    show (row[l.toNat]?).getD (0, 0) = _
    rw [h5]
    rfl
  exact ⟨_, bs, _, List.getElem?_eq_getElem hs, h2, List.getElem?_eq_getElem hl, by rw [ec]; exact h6, row, hm, by rw [ec]; exact List.mem_of_getElem? h5⟩
/-- one pair more -/
theorem WH.add {H H' : Hp} {p q : Addr} {L : L5} (h : WH H p q L) {a b : Int} {wa t : Addr} {w : List Int} (k : ∀ b o, b ≠ p → b ≠ q → H b = some o → H' b = some o) (hd : H' p = some (.dT (L.map ent ++ [([Sum.inl a, Sum.inl b], .ref wa)]))) (hl : H' q = some (.lst ((L.map fun x => V.ref x.1) ++ [.ref t]))) (hw : H' wa = some (.lst (w.map V.int))) (nwq : wa ≠ q) (ht : H' t = some (.tup [.int a, .int b])) : WH H' p q (L ++ [(t, wa, (a, b), w)]) := by
  refine ⟨?_, ?_, fun x hx => ?_, fun x hx => ?_, fun x hx => ?_⟩
  · rw [hd, List.map_append]
    rfl
  · rw [hl, List.map_append]
    rfl
  · rcases List.mem_append.mp hx with y | y
    · have e := h.t x y
      exact k _ _ (fun z => by rw [z, h.d] at e; cases e) (fun z => by rw [z, h.l] at e; cases e) e
    · rw [List.mem_singleton.mp y]
      exact ht
  · rcases List.mem_append.mp hx with y | y
    · have e := h.w x y
      exact k _ _ (fun z => by rw [z, h.d] at e; cases e) (h.nq x y) e
    · rw [List.mem_singleton.mp y]
      exact hw
  · rcases List.mem_append.mp hx with y | y
    · exact h.nq x y
    · rw [List.mem_singleton.mp y]; exact nwq
theorem ne_new {H : Hp} {p a : Addr} {o : HO} (h : (upd H p o) a = none) : a ≠ p := fun z => by rw [z, upd_same] at h; cases h
theorem un_new {H : Hp} {p a : Addr} {o : HO} (h : (upd H p o) a = none) : H a = none := by
  have n := ne_new h
  rwa [upd_ne n] at h
def SepI (x y p q : Addr) (c c2 : List (List (Int × Int))) (I : Nat) (H : Hp) (m : Nat) (σ : L2.St) (H' : Hp) : Prop := ∃ (k : Nat) (L : L5) (v5 v6 v7 v8 v9 v10 v11 v12 : Option V), m = c.length * c2.length - k ∧ σ = [some (.ref x), some (.ref y), some (.ref p), some (.ref q), some (.int (k : Int)), v5, v6, v7, v8, v9, v10, v11, v12] ∧ Same H H' ∧ WH H' p q L ∧ GG c c2 I k = .inr (qs L) ∧ Wok c.length c2.length (qs L) ∧ ∀ e ∈ L, e.2.2.2.length ≤ k
def spSep (C cX : Addr) : Sp := fun vs H Q E => ∃ (x y : Addr) (I O L I2 O2 J2 : Int) (op op2 : List Int) (c c2 : List (List (Int × Int))), vs = [.ref x, .ref y] ∧ MchAt C H x I O L op c ∧ MchAt C H y I2 O2 J2 op2 c2 ∧ Vm I O L op c ∧ Vm I2 O2 J2 op2 c2 ∧ op.length ≤ 100 ∧ op2.length ≤ 100 ∧ c.length ≤ 100 ∧ c2.length ≤ 100 ∧ I ≤ 100 ∧
  (([I, O, L] : List Int) ≠ [I2, O2, J2] → ∀ H', Same H H' → E (.ref cX) none H') ∧
  ([I, O, L] = [I2, O2, J2] → op ≠ op2 → ∀ (H' : Hp) (t : Addr), Same H H' → H' t = some (.lst []) → Q (.ref t) H') ∧
  ([I, O, L] = [I2, O2, J2] → op = op2 → (∀ H', Same H H' → Res c c2 I.toNat none → Q .non H') ∧ ∀ (H' : Hp) (t : Addr) (w : List Int), Same H H' → H' t = some (.lst (w.map V.int)) → Res c c2 I.toNat (some w) → Q (.ref t) H')
theorem cal_sep {C cX : Addr} (T : Txt K mg) (PC : MchC K C) (eX : ErrC K mg "Mismatch" cX) : CalX P w K mg base 1 "separating_word" (spSep C cX) := by
  obtain ⟨f, fd, F, hm, hb⟩ := T.h_separating_word
  refine ⟨f, fd, _, F.okX sc_separating_word (fun vs H Q E h => ?_) (fun cdv A outer s H vs Q E hr h => ?_), hm, F.kp, hb⟩
  · obtain ⟨_, _, _, _, _, _, _, _, _, _, _, _, rfl, _⟩ := h
    rfl
  · obtain ⟨x, y, I, O, L, I2, O2, J2, op, op2, c, c2, rfl, hA, hB, hV, hV2, b1, b2, b3, b4, b5, q1, q2, q3⟩ := h
    refine ⟨_, (pss_cons
      (ps_if (pt_cmpR (op_neDK (K := K) rfl hr.units) (pe_tup (pa_cons (pe_fld (pv 0) rfl) (pa_cons (pe_fld (pv 0) rfl) (pa_cons (pe_fld (pv 0) rfl) pa_nil)))) (pe_tup (pa_cons (pe_fld (pv 1) rfl) (pa_cons (pe_fld (pv 1) rfl) (pa_cons (pe_fld (pv 1) rfl) pa_nil)))) (nomark _)) (pss_one
      (ps_raise rfl (takes_of rfl rfl rfl rfl) (eX.made rfl))) pss_nil)
      (pss_cons
      (ps_if (pt_cmpR (op_neDK (K := K) rfl hr.units) (pe_fld (pv 0) rfl) (pe_fld (pv 1) rfl) (nomark _)) (pss_one
      (ps_ret (pe_lst pa_nil))) pss_nil)
      (pss_cons
      (ps_set (i := 2) sc_separating_word.nd rfl (Or.inl rfl) (pe_dispT (hu_of hr) (pe_tup (pa_cons pe_int (pa_cons pe_int pa_nil))) (pe_lst pa_nil)))
      (pss_cons
      (ps_set (i := 3) sc_separating_word.nd rfl (Or.inl rfl) (pe_lst (pa_cons (pe_tup (pa_cons pe_int (pa_cons pe_int pa_nil))) pa_nil)))
      (pss_cons
      (ps_set (i := 4) sc_separating_word.nd rfl (Or.inl rfl) pe_int)
      (C8.pss_cut
      (ps_while (passes_of rfl) (pt_cmpR op_lt (pv 4) (pe_callB (call_lenK (K := K) rfl) (by rfl) T.z_len PySem.boot_len (pa_cons (pv 3) pa_nil)) (nomark _)) (pss_cons
      (ps_asg (pe_ix (ix_listK (K := K) rfl) (pv 3) (pv 4) (fun _ _ => rfl)) (pg_tup (by rfl) (pgs_cons (pg_name (i := 5) sc_separating_word.nd rfl (.inl rfl)) (pgs_cons (pg_name (i := 6) sc_separating_word.nd rfl (.inl rfl)) pgs_nil))))
      (pss_cons
      (ps_set (i := 7) sc_separating_word.nd rfl (Or.inl rfl) (pe_dget (hu_of hr) (pv 2) (pe_tup (pa_cons (pv 5) (pa_cons (pv 6) pa_nil))) (fun _ _ => rfl)))
      (pss_cons
      (ps_aug (i := 4) sc_separating_word.nd rfl (.inl rfl) pe_int ip_add)
      (pss_one
      (ps_for (passes_of rfl) rfl (pi_range1 (by rfl) T.z_range (pa_cons (pe_fld (pv 0) rfl) pa_nil)) (pg_name (i := 8) sc_separating_word.nd rfl (.inl rfl)) (pss_cons
      (ps_asg (pe_ix (ix_tupK (K := K) rfl) (pe_ix (ix_tupK (K := K) rfl) (pe_fld (pv 0) rfl) (pv 5) (fun _ _ => rfl)) (pv 8) (fun _ _ => rfl)) (pg_tup (by rfl) (pgs_cons (pg_name (i := 9) sc_separating_word.nd rfl (.inl rfl)) (pgs_cons (pg_name (i := 10) sc_separating_word.nd rfl (.inl rfl)) pgs_nil))))
      (pss_cons
      (ps_asg (pe_ix (ix_tupK (K := K) rfl) (pe_ix (ix_tupK (K := K) rfl) (pe_fld (pv 1) rfl) (pv 6) (fun _ _ => rfl)) (pv 8) (fun _ _ => rfl)) (pg_tup (by rfl) (pgs_cons (pg_name (i := 11) sc_separating_word.nd rfl (.inl rfl)) (pgs_cons (pg_name (i := 12) sc_separating_word.nd rfl (.inl rfl)) pgs_nil))))
      (pss_cons
      (ps_if (pt_cmpR op_ne (pv 10) (pv 12) (nomark _)) (pss_one
      (ps_ret (pe_op op_cat (pv 7) (pe_lst (pa_cons (pv 8) pa_nil))))) pss_nil)
      (pss_one
      (ps_if (pt_cmp (pc_dnotin (hu_of hr) (pe_tup (pa_cons (pv 9) (pa_cons (pv 11) pa_nil))) (pv 2))) (pss_cons
      (ps_dput (hu_of hr) (pv 2) (pe_tup (pa_cons (pv 9) (pa_cons (pv 11) pa_nil))) (pe_op op_cat (pv 7) (pe_lst (pa_cons (pv 8) pa_nil))) rfl)
      (pss_one
      (ps_expr (pe_bm PySem.F.plainAttrs_list PySem.F.slot_list_append PySem.F.type_list_append mt_append (pv 3) (pa_cons (pe_tup (pa_cons (pv 9) (pa_cons (pv 11) pa_nil))) pa_nil))))) pss_nil)))))))))))
      (pss_one
      (ps_ret pe_non)))))))), ?_⟩
    obtain ⟨dx, ot, rt, as, e1, e2, e3, e4⟩ := id hA
    obtain ⟨dy, ot2, rt2, as2, f1, f2, f3, f4⟩ := id hB
    refine ⟨_, rfl, x, C, dx, _, _, rfl, e1, PC.cl, PC.nI, mf_I _ _ _ _ _, _, rfl, x, C, dx, _, _, rfl, e1, PC.cl, PC.nO, mf_O _ _ _ _ _, _, rfl, x, C, dx, _, _, rfl, e1, PC.cl, PC.nL, mf_L _ _ _ _ _, by show 3 ≤ sizeLine; decide, fun p1 n1 => ?_⟩
    have s1 := same_new (o := .tup [.int I, .int O, .int L]) n1
    have g1 : (upd H p1 (.tup [.int I, .int O, .int L])) p1 = some (.tup ([I, O, L].map V.int)) := upd_same
    generalize upd H p1 (.tup [.int I, .int O, .int L]) = H1 at s1 g1 ⊢
    refine ⟨_, rfl, y, C, dy, _, _, rfl, s1 _ _ f1, PC.cl, PC.nI, mf_I _ _ _ _ _, _, rfl, y, C, dy, _, _, rfl, s1 _ _ f1, PC.cl, PC.nO, mf_O _ _ _ _ _, _, rfl, y, C, dy, _, _, rfl, s1 _ _ f1, PC.cl, PC.nL, mf_L _ _ _ _ _, by show 3 ≤ sizeLine; decide, fun p2 n2 => ?_⟩
    have s2 := s1.trans (same_new (o := .tup [.int I2, .int O2, .int J2]) n2)
    have g1' := same_new (o := .tup [.int I2, .int O2, .int J2]) n2 _ _ g1
    have g2 : (upd H1 p2 (.tup [.int I2, .int O2, .int J2])) p2 = some (.tup ([I2, O2, J2].map V.int)) := upd_same
    generalize upd H1 p2 (.tup [.int I2, .int O2, .int J2]) = H2 at s2 g1' g2 ⊢
    refine ⟨_, _, dp_tup g1', dp_tup g2, shaped_tup _, shaped_tup _, _, rfl, ?_⟩
    rw [eqv_tup]
    by_cases h1 : ([I, O, L] : List Int) = [I2, O2, J2]
    case neg =>
      rw [decide_eq_false h1]
      exact q1 h1 _ s2
    rw [decide_eq_true h1]
    refine ite_f rfl ?_
    refine ⟨_, rfl, x, C, dx, _, _, rfl, s2 _ _ e1, PC.cl, PC.no, mf_o _ _ _ _ _, _, rfl, y, C, dy, _, _, rfl, s2 _ _ f1, PC.cl, PC.no, mf_o _ _ _ _ _, _, _, dp_tup (s2 _ _ e2), dp_tup (s2 _ _ f2), shaped_tup _, shaped_tup _, _, rfl, ?_⟩
    rw [eqv_tup]
    by_cases h2 : op = op2
    case neg =>
      rw [decide_eq_false h2]
      exact ⟨Nat.zero_le _, fun t ht => q2 h1 h2 _ t (s2.trans (same_new ht)) upd_same⟩
    rw [decide_eq_true h2]
    refine ite_f rfl ?_
    obtain ⟨q3, q4⟩ := q3 h1 h2
    have hII : I = I2 := (List.cons.inj h1).1
    clear q1 q2 g1' g2 g1 n1 n2 s1
    refine fun p hp => ⟨by show 2 ≤ sizeLine; decide, fun a ha => ⟨Nat.zero_le _, fun b hb => ?_⟩⟩
    have nap := ne_new ha
    have nbp : b ≠ p := ne_new (un_new hb)
    have nba : b ≠ a := ne_new hb
    refine ⟨a, [Sum.inl 0, Sum.inl 0], rfl, by rw [upd_ne nba.symm, upd_same]; rfl, by rw [upd_ne nbp.symm, upd_ne nap.symm, upd_same], ?_⟩
    have s5 : Same H (upd (upd (upd (upd H2 p (.dT [])) a (.tup [.int 0, .int 0])) b (.lst [])) p (.dT [([Sum.inl 0, Sum.inl 0], .ref b)])) := fun z o hz => by
      have hz2 := s2 _ _ hz
      have n := ne_of_none hz2 hp
      rw [upd_ne n]
      exact same_new hb _ _ (same_new ha _ _ (same_new hp _ _ hz2))
    have ep : (upd (upd (upd (upd H2 p (.dT [])) a (.tup [.int 0, .int 0])) b (.lst [])) p (.dT [([Sum.inl 0, Sum.inl 0], .ref b)])) p = some (.dT [([Sum.inl 0, Sum.inl 0], .ref b)]) := upd_same
    have eb : (upd (upd (upd (upd H2 p (.dT [])) a (.tup [.int 0, .int 0])) b (.lst [])) p (.dT [([Sum.inl 0, Sum.inl 0], .ref b)])) b = some (.lst []) := by rw [upd_ne nbp, upd_same]
    have hpH : H p = none := by
      cases e : H p with
      | none => rfl
      | some o => rw [s2 _ _ e] at hp; cases hp
    generalize upd (upd (upd (upd H2 p (.dT [])) a (.tup [.int 0, .int 0])) b (.lst [])) p (.dT [([Sum.inl 0, Sum.inl 0], .ref b)]) = H5 at s5 ep eb ⊢
    clear hp ha hb nap nbp nba s2
    refine ⟨by show 2 ≤ sizeLine; decide, fun t ht => ⟨by show 1 ≤ sizeLine; decide, fun q hq => ?_⟩⟩
    have s7 : Same H5 (upd (upd H5 t (.tup [.int 0, .int 0])) q (.lst [.ref t])) := fun z o hz => same_new hq _ _ (same_new ht _ _ hz)
    have et : (upd (upd H5 t (.tup [.int 0, .int 0])) q (.lst [.ref t])) t = some (.tup [.int 0, .int 0]) := same_new hq _ _ upd_same
    have eq : (upd (upd H5 t (.tup [.int 0, .int 0])) q (.lst [.ref t])) q = some (.lst [.ref t]) := upd_same
    have nqb : b ≠ q := fun z => by rw [← z, same_new ht _ _ eb] at hq; cases hq
    have hqH : H q = none := by
      cases e : H q with
      | none => rfl
      | some o => rw [same_new ht _ _ (s5 _ _ e)] at hq; cases hq
    generalize upd (upd H5 t (.tup [.int 0, .int 0])) q (.lst [.ref t]) = H7 at s7 et eq ⊢
    have w7 : WH H7 p q [(t, b, (0, 0), [])] := ⟨s7 _ _ ep, eq, fun z hz => by rw [List.mem_singleton.mp hz]; exact et, fun z hz => by rw [List.mem_singleton.mp hz]; exact s7 _ _ eb, fun z hz => by rw [List.mem_singleton.mp hz]; exact nqb⟩
    have s07 := s5.trans s7
    clear s5 s7 ep eb et eq nqb hq ht
    have hc1 : 0 < c.length := List.length_pos_iff.mpr hV.ne
    have hc2 : 0 < c2.length := List.length_pos_iff.mpr hV2.ne
    have wok0 : Wok c.length c2.length (qs [(t, b, (0, 0), [])]) := ⟨by show ([(0, 0)] : List (Int × Int)).Nodup; simp, fun e he => by rw [List.mem_singleton.mp he]; exact ⟨Int.le_refl _, by show (0 : Int) < _; omega⟩, fun e he => by rw [List.mem_singleton.mp he]; exact ⟨Int.le_refl _, by show (0 : Int) < _; omega⟩⟩
    have hNN : c.length * c2.length ≤ 10000 := Nat.mul_le_mul b3 b4
    refine ⟨fun σ H' => Q .non H', ?_, fun σ H' z => z⟩
    refine ⟨SepI x y p q c c2 I.toNat H, ⟨_, 0, _, _, _, _, _, _, _, _, _, rfl, rfl, s07, w7, rfl, wok0, fun e he => by rw [List.mem_singleton.mp he]; exact Nat.le_refl 0⟩, ?_⟩
    rintro m σ H8 ⟨k, L, v5, v6, v7, v8, v9, v10, v11, v12, rfl, rfl, s8, w8, hG, hW, hwl⟩
    clear wok0 w7 s07
    have hlen := wok_len hW
    have hqs : (qs L).length = L.length := List.length_map ..
    have hlq : (L.map fun x => V.ref x.1).length = L.length := List.length_map ..
    refine ⟨_, rfl, _, rfl, q, _, rfl, .inl (.of w8.l), _, _, rfl, rfl, _, rfl, ite2 (fun cc => ?_) (fun cc => ?_)⟩
    · have cc : k < L.length := by have := of_decide_eq_true cc; omega
      obtain ⟨x0, hx0⟩ : ∃ x0, L[k]? = some x0 := ⟨_, List.getElem?_eq_getElem cc⟩
      have hm0 := List.mem_of_getElem? hx0
      have hkN : k < c.length * c2.length := by omega
      refine ⟨SepI x y p q c c2 I.toNat H (c.length * c2.length - (k + 1)), fun σ' H'' hN => ⟨_, by omega, hN⟩, ?_⟩
      refine ⟨_, rfl, _, rfl, q, _, _, .ref x0.1, rfl, rfl, .of w8.l, atI_nat (by rw [List.getElem?_map, hx0]; rfl), ?_⟩
      refine ⟨x0.1, _, rfl, .of (w8.t x0 hm0), rfl, _, _, rfl, _, _, rfl, rfl, ?_⟩
      refine ⟨_, rfl, _, rfl, _, rfl, by show 2 ≤ sizeLine; decide, fun t1 ht1 => ?_⟩
      have s9 := same_new (o := .tup [.int x0.2.2.1.1, .int x0.2.2.1.2]) ht1
      have et1 := upd_same (H := H8) (a := t1) (o := .tup [.int x0.2.2.1.1, .int x0.2.2.1.2])
      generalize upd H8 t1 (.tup [.int x0.2.2.1.1, .int x0.2.2.1.2]) = H9 at s9 et1 ⊢
      have w9 := w8.same s9
      have dg : DGet H9 p (.ref t1) (some (.ref x0.2.1)) := by
        have := DGet.t (k := [Sum.inl x0.2.2.1.1, Sum.inl x0.2.2.1.2]) w9.d et1
        rwa [val_some hW.nd x0 hm0] at this
      refine ⟨p, _, rfl, dg, ?_⟩
      have s09 := s8.trans s9
      have hI0 := hV.i1
      refine ⟨_, rfl, _, _, rfl, rfl, _, rfl, x, C, dx, _, _, rfl, s09 _ _ e1, PC.cl, PC.nI, mf_I _ _ _ _ _, _, rfl, by omega, by omega, ?_⟩
      have hIn : ((I.toNat : Nat) : Int) = I := Int.toNat_of_nonneg (by omega)
      have ha0 := hW.i1 x0.2.2 (List.mem_map.mpr ⟨x0, hm0, rfl⟩)
      have hb0 := hW.i2 x0.2.2 (List.mem_map.mpr ⟨x0, hm0, rfl⟩)
      have hw0 := hwl x0 hm0
      have hgk : (qs L)[k]? = some x0.2.2 := by
        show (L.map (·.2.2))[k]? = _
        rw [List.getElem?_map, hx0]
        rfl
      have e39 := s09 _ _ e3
      have f39 := s09 _ _ f3
      clear s8 w8 et1 dg
      refine for_range (lo := 0) (n := I.toNat) (fun j σ' H' => ∃ (L' : L5) (v8 v9 v10 v11 v12 : Option V), σ' = [some (.ref x), some (.ref y), some (.ref p), some (.ref q), some (.int ((k + 1 : Nat) : Int)), some (.int x0.2.2.1.1), some (.int x0.2.2.1.2), some (.ref x0.2.1), v8, v9, v10, v11, v12] ∧ Same H H' ∧ WH H' p q L' ∧ lets c c2 x0.2.2 (qs L) j = .inr (qs L') ∧ Wok c.length c2.length (qs L') ∧ (∀ e ∈ L', e.2.2.2.length ≤ k + 1) ∧ x0 ∈ L')
        ⟨L, _, _, _, _, _, rfl, s09, w9, rfl, hW, fun e he => Nat.le_succ_of_le (hwl e he), hm0⟩ ?_ ?_
      · clear w9 hW hwl hm0 s9
        rintro j σ' HA hj ⟨L', v8, v9, v10, v11, v12, rfl, sA, wA, hl, hW, hwl, hm0⟩
        have hjI : (j : Int) < I := by omega
        have hj0 : (0 : Int) ≤ (j : Int) := Int.ofNat_nonneg j
        obtain ⟨ra, bs, rb, c1, c2', c3, c4, r1, hr1, hr1'⟩ := cellAt (e4.same sA) hV.w ha0.1 ha0.2 hj0 hjI
        obtain ⟨ra2, bs2, rb2, d1, d2, d3, d4, r2, hr2, hr2'⟩ := cellAt (f4.same sA) hV2.w hb0.1 hb0.2 hj0 (by rw [← hII]; exact hjI)
        have hst1 := hV.st r1 hr1 _ hr1'
        have hst2 := hV2.st r2 hr2 _ hr2'
        rw [show (0 : Int) + (j : Int) = (j : Int) from Int.zero_add _]
        refine ⟨_, rfl, x, C, dx, _, _, rfl, sA _ _ e1, PC.cl, PC.nr, mf_r _ _ _ _ _, _, rfl, rt, _, _, .ref ra, rfl, rfl, .of (sA _ _ e3), atI_int ha0.1 (by rw [List.getElem?_map, c1]; rfl), _, rfl, ra, _, _, .ref rb, rfl, rfl, .of c2', atI_int hj0 (by rw [List.getElem?_map, c3]; rfl), rb, _, rfl, .of c4, rfl, _, _, rfl, _, _, rfl, rfl, ?_⟩
        refine ⟨_, rfl, y, C, dy, _, _, rfl, sA _ _ f1, PC.cl, PC.nr, mf_r _ _ _ _ _, _, rfl, rt2, _, _, .ref ra2, rfl, rfl, .of (sA _ _ f3), atI_int hb0.1 (by rw [List.getElem?_map, d1]; rfl), _, rfl, ra2, _, _, .ref rb2, rfl, rfl, .of d2, atI_int hj0 (by rw [List.getElem?_map, d3]; rfl), rb2, _, rfl, .of d4, rfl, _, _, rfl, _, _, rfl, rfl, ?_⟩
        have hwa := wA.w x0 hm0
        have hlw : (x0.2.2.2.map V.int).length + 1 ≤ 20000 := by rw [List.length_map]; omega
        have hstep := lets_snoc hl
        refine ⟨_, rfl, _, rfl, rfl, _, rfl, ite_ne (fun kk => ?_) (fun kk => ?_)⟩
        · refine ⟨_, rfl, _, rfl, by show 1 ≤ sizeLine; decide, fun l1 hl1 => ?_⟩
          have sB := same_new (o := .lst [V.int (j : Int)]) hl1
          refine ⟨x0.2.1, l1, _, _, rfl, rfl, sB _ _ hwa, upd_same, Nat.le_trans hlw (by decide), fun t ht => ?_⟩
          refine q4 _ t (x0.2.2.2 ++ [(j : Int)]) ((sA.trans sB).trans (same_new ht)) (by rw [upd_same, List.map_append]; rfl) ⟨k + 1, .inl ⟨_, rfl, ?_⟩⟩
          rw [gg_inr hG hgk]
          have hs1 : lets c c2 x0.2.2 (qs L) (j + 1) = .inl (x0.2.2.2 ++ [(j : Int)]) := by
            rw [hstep]
            unfold stepL
            rw [if_pos kk]
          have := lets_inl hs1 (I.toNat - (j + 1))
          rwa [show j + 1 + (I.toNat - (j + 1)) = I.toNat by omega] at this
        have kk' : ¬ ((cellZ c x0.2.2.1.1 (j : Int)).2 ≠ (cellZ c2 x0.2.2.1.2 (j : Int)).2) := fun z => z kk
        generalize e1' : (cellZ c x0.2.2.1.1 (j : Int)).1 = ta at hst1 ⊢
        generalize e2' : (cellZ c2 x0.2.2.1.2 (j : Int)).1 = tb at hst2 ⊢
        refine ⟨_, rfl, _, rfl, by show 2 ≤ sizeLine; decide, fun t0 ht0 => ?_⟩
        have sB := same_new (o := .tup [.int ta, .int tb]) ht0
        have et0 := upd_same (H := HA) (a := t0) (o := .tup [.int ta, .int tb])
        generalize upd HA t0 (.tup [.int ta, .int tb]) = HB at sB et0 ⊢
        have wB := wA.same sB
        have dg := DGet.t (k := [Sum.inl ta, Sum.inl tb]) wB.d et0
        refine ⟨_, rfl, p, _, rfl, dg, ?_⟩
        by_cases hin : (ta, tb) ∈ (qs L').map (·.1)
        · -- there already
          have hsome : (valV (L'.map ent) [Sum.inl ta, Sum.inl tb]).isSome = true := by
            obtain ⟨e, he, h1⟩ := List.mem_map.mp hin
            obtain ⟨z, hz, rfl⟩ := List.mem_map.mp he
            have := val_some hW.nd z hz
            rw [show z.2.2.1.1 = ta from congrArg Prod.fst h1, show z.2.2.1.2 = tb from congrArg Prod.snd h1] at this
            rw [this]
            rfl
          refine ⟨_, rfl, ite_f (c := !(valV (L'.map ent) [Sum.inl ta, Sum.inl tb]).isSome) (by rw [hsome]; rfl) ?_⟩
          refine ⟨L', _, _, _, _, _, rfl, sA.trans sB, wB, ?_, hW, hwl, hm0⟩
          rw [hstep]
          unfold stepL
          rw [if_neg kk', if_pos (by rw [e1', e2']; exact hin)]
        have hnone := val_none hin
        refine ⟨_, rfl, ite_t (c := !(valV (L'.map ent) [Sum.inl ta, Sum.inl tb]).isSome) (by rw [hnone]; rfl) ?_⟩
        refine ⟨_, rfl, _, rfl, by show 1 ≤ sizeLine; decide, fun l1 hl1 => ?_⟩
        have sC := sB.trans (same_new (o := .lst [V.int (j : Int)]) hl1)
        have el1 := upd_same (H := HB) (a := l1) (o := .lst [V.int (j : Int)])
        generalize upd HB l1 (.lst [V.int (j : Int)]) = HC at sC el1 ⊢
        refine ⟨x0.2.1, l1, _, _, rfl, rfl, sC _ _ hwa, el1, Nat.le_trans hlw (by decide), fun w1 hw1 => ?_⟩
        have sD := sC.trans (same_new (o := .lst (x0.2.2.2.map V.int ++ [V.int (j : Int)])) hw1)
        have ew1 := upd_same (H := HC) (a := w1) (o := .lst (x0.2.2.2.map V.int ++ [V.int (j : Int)]))
        have nwq : w1 ≠ q := fun z => by rw [z, sC _ _ wA.l] at hw1; cases hw1
        have nwp : w1 ≠ p := fun z => by rw [z, sC _ _ wA.d] at hw1; cases hw1
        generalize upd HC w1 (.lst (x0.2.2.2.map V.int ++ [V.int (j : Int)])) = HD at sD ew1 ⊢
        refine ⟨_, rfl, _, rfl, _, rfl, by show 2 ≤ sizeLine; decide, fun t1 ht1 => ?_⟩
        have sE := sD.trans (same_new (o := .tup [.int ta, .int tb]) ht1)
        have ew1 := same_new (o := .tup [.int ta, .int tb]) ht1 _ _ ew1
        have et1 := upd_same (H := HD) (a := t1) (o := .tup [.int ta, .int tb])
        generalize upd HD t1 (.tup [.int ta, .int tb]) = HE at sE ew1 et1 ⊢
        have wE := wA.same sE
        have hLl : L'.length ≤ 10000 := by
          have h1 := wok_len hW
          have h2 : (qs L').length = L'.length := List.length_map ..
          omega
        refine ⟨p, upd HE p (.dT (L'.map ent ++ [([Sum.inl ta, Sum.inl tb], .ref w1)])), rfl, ?_, ?_⟩
        · rw [← putK_new _ hnone]
          exact DPut.t wE.d et1 (by rw [List.length_map]; exact Nat.lt_of_le_of_lt hLl (by decide))
        have npq : p ≠ q := fun z => by have := wE.d; rw [z, wE.l] at this; cases this
        have efq : (upd HE p (.dT (L'.map ent ++ [([Sum.inl ta, Sum.inl tb], .ref w1)]))) q = some (.lst (L'.map fun x => V.ref x.1)) := by rw [upd_ne npq.symm]; exact wE.l
        have efp : (upd HE p (.dT (L'.map ent ++ [([Sum.inl ta, Sum.inl tb], .ref w1)]))) p = _ := upd_same
        have kF : ∀ b o, b ≠ p → HE b = some o → (upd HE p (.dT (L'.map ent ++ [([Sum.inl ta, Sum.inl tb], .ref w1)]))) b = some o := fun b o n hb => by rw [upd_ne n]; exact hb
        generalize upd HE p (.dT (L'.map ent ++ [([Sum.inl ta, Sum.inl tb], .ref w1)])) = HF at efq efp kF ⊢
        refine ⟨_, rfl, .inl ⟨rfl, _, .of efq⟩, _, rfl, _, rfl, by show 2 ≤ sizeLine; decide, fun t2 ht2 => ?_⟩
        have sG := same_new (o := .tup [.int ta, .int tb]) ht2
        have et2 := upd_same (H := HF) (a := t2) (o := .tup [.int ta, .int tb])
        generalize upd HF t2 (.tup [.int ta, .int tb]) = HG at sG et2 ⊢
        have n2q : t2 ≠ q := fun z => by rw [z, sG _ _ efq] at et2; cases et2
        refine ⟨q, _, _, rfl, rfl, sG _ _ efq, by rw [List.length_map]; exact Nat.lt_of_le_of_lt hLl (by decide), ?_⟩
        have kH : ∀ b o, b ≠ p → b ≠ q → HE b = some o → (upd HG q (.lst ((L'.map fun x => V.ref x.1) ++ [.ref t2]))) b = some o := fun b o n1 n2 hb => by
          rw [upd_ne n2]
          exact sG _ _ (kF _ _ n1 hb)
        have wH := wE.add (wa := w1) (t := t2) (a := ta) (b := tb) (w := x0.2.2.2 ++ [(j : Int)]) kH (by rw [upd_ne npq]; exact sG _ _ efp) upd_same (kH _ _ nwp nwq (by rw [List.map_append]; exact ew1)) nwq (by rw [upd_ne n2q]; exact et2)
        refine ⟨L' ++ [(t2, w1, (ta, tb), x0.2.2.2 ++ [(j : Int)])], _, _, _, _, _, rfl, fun b o hb => ?_, wH, ?_, ?_, fun e he => ?_, List.mem_append_left _ hm0⟩
        · exact kH _ _ (ne_of_none hb hpH) (ne_of_none hb hqH) (sE _ _ (sA _ _ hb))
        · rw [hstep]
          unfold stepL
          rw [if_neg kk', if_neg (by rw [e1', e2']; exact hin), e1', e2']
          show _ = Sum.inr ((L' ++ _).map _)
          rw [List.map_append]
          rfl
        · have hst : stepL c c2 x0.2.2 (qs L') j = .inr (qs L' ++ [((ta, tb), x0.2.2.2 ++ [(j : Int)])]) := by
            unfold stepL
            rw [if_neg kk', if_neg (by rw [e1', e2']; exact hin), e1', e2']
          have := (wok_step hW (by rw [e1']; exact hst1) (by rw [e2']; exact hst2) hst).1
          show Wok _ _ ((L' ++ _).map _)
          rw [List.map_append]
          exact this
        · rcases List.mem_append.mp he with y | y
          · exact hwl e y
          · rw [List.mem_singleton.mp y]
            show (x0.2.2.2 ++ [(j : Int)]).length ≤ k + 1
            rw [List.length_append]
            show x0.2.2.2.length + 1 ≤ k + 1
            omega
      · rintro σ' HA ⟨L', v8, v9, v10, v11, v12, rfl, sA, wA, hl, hW, hwl, hm0⟩
        exact ⟨k + 1, L', _, _, _, _, _, _, _, _, rfl, rfl, sA, wA, by rw [gg_inr hG hgk]; exact hl, hW, hwl⟩
    · have cc : L.length ≤ k := by
        have : ¬ ((k : Int) < ((L.map fun x => V.ref x.1).length : Int)) := fun z => cc (decide_eq_true z)
        omega
      exact q3 _ s8 ⟨k, .inr ⟨rfl, qs L, hG, by omega⟩⟩
theorem shaped_of {d : PyData} (h1 : d.canLay0 = true) (h2 : d.depth ≤ 64) : SeqAt.shaped d = true := by
  unfold SeqAt.shaped
  rw [h1, decide_eq_true h2]
  rfl
def dPr (p : Int × Int) : PyData := .tuple [.int p.1, .int p.2]
def dRw (r : List (Int × Int)) : PyData := .list (r.map dPr)
def dTb (c : List (List (Int × Int))) : PyData := .list (c.map dRw)
theorem layPr : ∀ r : List (Int × Int), PyData.canLayAll0 (r.map dPr) = true
  | [] => rfl
  | p :: r => by
    rw [List.map_cons, PyData.canLayAll0, layPr r]
    rfl
theorem layRw : ∀ c : List (List (Int × Int)), PyData.canLayAll0 (c.map dRw) = true
  | [] => rfl
  | r :: c => by
    rw [List.map_cons, PyData.canLayAll0, layRw c]
    unfold dRw
    rw [PyData.canLay0, layPr]
    rfl
theorem lay_tb (c : List (List (Int × Int))) : (dTb c).canLay0 = true := by
  unfold dTb
  rw [PyData.canLay0, layRw]
theorem depPr : ∀ r : List (Int × Int), PyData.depthAll (r.map dPr) ≤ 1
  | [] => by simp [PyData.depthAll]
  | p :: r => by
    have := depPr r
    rw [List.map_cons, PyData.depthAll]
    have e : (dPr p).depth = 1 := by simp [dPr, PyData.depth, PyData.depthAll]
    omega
theorem depRw : ∀ c : List (List (Int × Int)), PyData.depthAll (c.map dRw) ≤ 2
  | [] => by simp [PyData.depthAll]
  | r :: c => by
    have := depRw c
    have := depPr r
    rw [List.map_cons, PyData.depthAll]
    have e : (dRw r).depth = PyData.depthAll (r.map dPr) + 1 := by unfold dRw; rw [PyData.depth]
    omega
theorem dep_tb (c : List (List (Int × Int))) : (dTb c).depth ≤ 3 := by
  unfold dTb
  have := depRw c
  rw [PyData.depth]
  omega
theorem shaped_tb (c : List (List (Int × Int))) : SeqAt.shaped (dTb c) = true := shaped_of (lay_tb c) (by have := dep_tb c; omega)
theorem dpAll_pr {K : PySem.W.Frag} {H : Hp} : ∀ {bs : List Addr} {r : List (Int × Int)}, bs.length = r.length → (∀ (j : Nat) (b : Addr), bs[j]? = some b → ∃ t l, r[j]? = some (t, l) ∧ H b = some (.tup [.int t, .int l])) → DpAll K H (bs.map V.ref) (r.map dPr)
  | [], [], _, _ => .nil
  | b :: bs, p :: r, hl, h => by
    obtain ⟨t, l, h1, h2⟩ := h 0 b rfl
    cases h1
    exact .cons (.tup (.of h2) (.cons (.int _) (.cons (.int _) .nil))) (dpAll_pr (Nat.succ.inj hl) fun j b' hj => h (j + 1) b' hj)
  | [], _ :: _, hl, _ => by cases hl
  | _ :: _, [], hl, _ => by cases hl
theorem dpAll_rw {K : PySem.W.Frag} {H : Hp} : ∀ {as : List Addr} {c : List (List (Int × Int))}, RP .lst H as c → DpAll K H (as.map V.ref) (c.map dRw)
  | [], [], _ => .nil
  | a :: as, r :: c, h => by
    obtain ⟨bs, row, h1, h2, h3, h4⟩ := h.g 0 a rfl
    cases h1
    exact .cons (.lst (.of h2) (dpAll_pr h3 h4)) (dpAll_rw ⟨Nat.succ.inj h.len, fun i a' e => h.g (i + 1) a' e⟩)
  | [], _ :: _, h => by have := h.len; cases this
  | _ :: _, [], h => by have := h.len; cases this
theorem dp_tb {K : PySem.W.Frag} {H : Hp} {r : Addr} {as : List Addr} {c : List (List (Int × Int))} (h : LPr H r as c) : Dp K H (.ref r) (dTb c) := .lst (.of h.1) (dpAll_rw h.2)
def dM2 (op : List Int) (c : List (List (Int × Int))) : PyData := .list [.list (op.map PyData.int), dTb c]
theorem lay_m2 (op : List Int) (c : List (List (Int × Int))) : (dM2 op c).canLay0 = true := by
  unfold dM2
  rw [PyData.canLay0, PyData.canLayAll0, PyData.canLayAll0, PyData.canLayAll0, PyData.canLay0, layAll, lay_tb]
  rfl
theorem shaped_m2 (op : List Int) (c : List (List (Int × Int))) : SeqAt.shaped (dM2 op c) = true := by
  refine shaped_of (lay_m2 op c) ?_
  unfold dM2
  have := dep_tb c
  rw [PyData.depth, PyData.depthAll, PyData.depthAll, PyData.depthAll, PyData.depth, depAll]
  omega
theorem dp_m2 {K : PySem.W.Frag} {H : Hp} {t oa r : Addr} {as : List Addr} {op : List Int} {c : List (List (Int × Int))} (ht : H t = some (.lst [.ref oa, .ref r])) (ho : H oa = some (.lst (op.map V.int))) (hr : LPr H r as c) : Dp K H (.ref t) (dM2 op c) := .lst (.of ht) (.cons (dp_lst ho) (.cons (dp_tb hr) .nil))
def KLs (S : List Addr) (H H' : Hp) : Prop := ∀ b o, b ∉ S → H b = some o → H' b = some o
theorem mch_kl {C : Addr} {S : List Addr} {H H' : Hp} {x : Addr} {I O L : Int} {op : List Int} {c : List (List (Int × Int))} (k : KLs S H H') (hs : ∀ b ∈ S, ∃ ys, H b = some (.lst ys)) (h : MchAt C H x I O L op c) : MchAt C H' x I O L op c := by
  obtain ⟨dx, ot, rt, as, e1, e2, e3, e4⟩ := h
  have nl : ∀ {b : Addr} {o : HO}, H b = some o → (∀ ys, o ≠ .lst ys) → b ∉ S := fun hb hn z => by
    obtain ⟨ys, y⟩ := hs _ z
    rw [hb] at y
    exact hn ys (Option.some.inj y)
  exact ⟨dx, ot, rt, as, k _ _ (nl e1 fun ys z => by cases z) e1, k _ _ (nl e2 fun ys z => by cases z) e2, k _ _ (nl e3 fun ys z => by cases z) e3, RP.keepT (fun b xs hb => k _ _ (nl hb fun ys z => by cases z) hb) e4⟩
def spOut (C : Addr) : Sp := fun vs H Q E => ∃ (x y : Addr) (I O L I2 O2 J2 : Int) (op op2 : List Int) (c c2 : List (List (Int × Int))), vs = [.ref x, .ref y] ∧ MchAt C H x I O L op c ∧ MchAt C H y I2 O2 J2 op2 c2 ∧ Vm I O L op c ∧ Vm I2 O2 J2 op2 c2 ∧ op.length ≤ 100 ∧ op2.length ≤ 100 ∧ c.length ≤ 100 ∧ c2.length ≤ 100 ∧ I ≤ 100 ∧
  (([I, O, L] : List Int) ≠ [I2, O2, J2] → ∀ (H' : Hp) (t : Addr), Same H H' → H' t = some (.tup [.str "refused", .str "mismatch"]) → Q (.ref t) H') ∧
  ([I, O, L] = [I2, O2, J2] → op ≠ op2 → ∀ (H' : Hp) (t : Addr), Same H H' → H' t = some (.lst []) → Q (.ref t) H') ∧
  ([I, O, L] = [I2, O2, J2] → op = op2 → (∀ H', Same H H' → Res c c2 I.toNat none → Q .non H') ∧ ∀ (H' : Hp) (t : Addr) (w : List Int), Same H H' → H' t = some (.lst (w.map V.int)) → Res c c2 I.toNat (some w) → Q (.ref t) H')
theorem cal_out {C cX : Addr} (T : Txt K mg) (PC : MchC K C) (eX : ErrC K mg "Mismatch" cX) : C8.Cal P w K mg base 2 "_law_outcome" (spOut C) [] := by
  have X_separating_word : CalX P w K mg base 1 "separating_word" (spSep C cX) := cal_sep T PC eX
  obtain ⟨f, fd, F, hm, hb⟩ := T.h_law_outcome
  refine ⟨f, fd, _, [], F.ok sc_law_outcome (fun vs H Q E h => ?_) (fun cdv A outer s H vs Q E hr h => ?_), hm, F.kp, hb, .nil⟩
  · obtain ⟨_, _, _, _, _, _, _, _, _, _, _, _, rfl, _⟩ := h
    rfl
  · obtain ⟨x, y, I, O, L, I2, O2, J2, op, op2, c, c2, rfl, hA, hB, hV, hV2, b1, b2, b3, b4, b5, q1, q2, q3⟩ := h
    refine ⟨_, (pss_one
      (ps_try_only rfl rfl ⟨rfl, by decide, .inl eX.g⟩ takes0 (fun W pn xe tk _ => (pss_one (ps_ret (pe_cx X_separating_word hr (by decide) tk (by rfl) (pa_cons (pv 0) (pa_cons (pv 1) pa_nil)))))) (fun a oe cls d pn hz hf => (pss_one
      (ps_ret (pe_tup (pa_cons pe_str (pa_cons pe_str pa_nil)))))))), ?_⟩
    refine ⟨_, rfl, _, rfl, x, y, I, O, L, I2, O2, J2, op, op2, c, c2, rfl, hA, hB, hV, hV2, b1, b2, b3, b4, b5, fun k H' s' => ⟨true, eX.me, fun _ a ha => ?_, fun y => by cases y⟩, q2, q3⟩
    exact ⟨by show 2 ≤ sizeLine; decide, fun t ht => q1 k _ t (s'.trans (same_new ht)) upd_same⟩
def SN (H : Hp) (sa : Addr) (bs : List Addr) (ps : List (Int × Int)) : Prop := H sa = some (.lst (bs.map V.ref)) ∧ bs.length = ps.length ∧ ∀ (j : Nat) (b : Addr), bs[j]? = some b → ∃ t l, ps[j]? = some (t, l) ∧ H b = some (.tup [.int t, .int l])
structure WL (H : Hp) (wa : Addr) (L : L5) : Prop where
  l : H wa = some (.lst (L.map fun x => V.ref x.1))
  t : ∀ x ∈ L, H x.1 = some (.tup [.int x.2.2.1.1, .int x.2.2.1.2, .ref x.2.1])
  w : ∀ x ∈ L, H x.2.1 = some (.lst (x.2.2.2.map V.int))
def K2 (sa la : Addr) (H H' : Hp) : Prop := ∀ b o, b ≠ sa → b ≠ la → H b = some o → H' b = some o
theorem K2.trans {sa la : Addr} {H H' H2 : Hp} (a : K2 sa la H H') (b : K2 sa la H' H2) : K2 sa la H H2 := fun z o h1 h2 h => b z o h1 h2 (a z o h1 h2 h)
theorem Same.k2 {sa la : Addr} {H H' : Hp} (s : Same H H') : K2 sa la H H' := fun z o _ _ h => s z o h
theorem tup_ne {H : Hp} {a b : Addr} {xs ys : List V} (h : H a = some (.tup xs)) (g : H b = some (.lst ys)) : a ≠ b := fun z => by rw [z, g] at h; cases h
theorem WL.k2 {sa la : Addr} {H H' : Hp} {wa : Addr} {L : L5} {ys zs : List V} (k : K2 sa la H H') (hs : H sa = some (.lst ys)) (hl : H la = some (.lst zs)) (n1 : wa ≠ sa) (n2 : wa ≠ la) (n3 : ∀ x ∈ L, x.2.1 ≠ sa ∧ x.2.1 ≠ la) (h : WL H wa L) : WL H' wa L := ⟨k _ _ n1 n2 h.l, fun x hx => k _ _ (tup_ne (h.t x hx) hs) (tup_ne (h.t x hx) hl) (h.t x hx), fun x hx => k _ _ (n3 x hx).1 (n3 x hx).2 (h.w x hx)⟩
theorem SN.same {H H' : Hp} {sa : Addr} {bs : List Addr} {ps : List (Int × Int)} (s : Same H H') (h : SN H sa bs ps) : SN H' sa bs ps := ⟨s _ _ h.1, h.2.1, fun j b hb => by obtain ⟨t, l, h1, h2⟩ := h.2.2 j b hb; exact ⟨t, l, h1, s _ _ h2⟩⟩
theorem SN.keep {H H' : Hp} {sa : Addr} {bs : List Addr} {ps : List (Int × Int)} (e : H' sa = some (.lst (bs.map V.ref))) (k : ∀ b xs, H b = some (.tup xs) → H' b = some (.tup xs)) (h : SN H sa bs ps) : SN H' sa bs ps := ⟨e, h.2.1, fun j b hb => by obtain ⟨t, l, h1, h2⟩ := h.2.2 j b hb; exact ⟨t, l, h1, k _ _ h2⟩⟩
theorem any_mem (ps : List (Int × Int)) (a b : Int) : ((ps.map dPr).any fun z => PyData.eqv z (.tuple [.int a, .int b])) = decide ((a, b) ∈ ps) := by
  induction ps with
  | nil => rfl
  | cons p ps ih =>
    rw [List.map_cons, List.any_cons, ih]
    have e : PyData.eqv (dPr p) (.tuple [.int a, .int b]) = decide ([p.1, p.2] = [a, b]) := eqv_tup [p.1, p.2] [a, b]
    rw [e]
    by_cases h : p = (a, b)
    · subst h
      rw [decide_eq_true rfl]
      exact (decide_eq_true List.mem_cons_self).symm
    · rw [decide_eq_false (fun z => h (by
        have h1 := List.cons.inj z
        have h2 := List.cons.inj h1.2
        exact Prod.ext h1.1 h2.1))]
      by_cases g : (a, b) ∈ ps
      · rw [decide_eq_true g]
        exact (decide_eq_true (List.mem_cons_of_mem _ g)).symm
      · rw [decide_eq_false g]
        refine (decide_eq_false fun z => ?_).symm
        rcases List.mem_cons.mp z with z | z
        · exact h z.symm
        · exact g z
theorem shaped_prs (ps : List (Int × Int)) : SeqAt.shaped (.list (ps.map dPr)) = true := shaped_of (by rw [PyData.canLay0, layPr]) (by
  have h1 := depPr ps
  have e : (PyData.list (ps.map dPr)).depth = PyData.depthAll (ps.map dPr) + 1 := by rw [PyData.depth]
  rw [e]
  omega)
theorem shaped_pr (a b : Int) : SeqAt.shaped (.tuple [.int a, .int b]) = true := shaped_tup [a, b]
theorem at0 {x : V} {xs : List V} : atI (x :: xs) 0 = some x := atI_nat (j := 0) rfl
structure EI (H H1 H2 : Hp) (sa la : Addr) (W W' : List Q3) (Ll : L5) (bs : List Addr) (n m d : Nat) : Prop where
  s : Same H H2
  k : K2 sa la H1 H2
  sn : SN H2 sa bs (W'.map (·.1))
  wl : WL H2 la Ll
  e : W' = W ++ qs Ll
  ok : Wok n m W'
  ln : ∀ e ∈ Ll, e.2.2.2.length ≤ d
  ne : ∀ x ∈ Ll, x.2.1 ≠ sa ∧ x.2.1 ≠ la
theorem WL.same {H H' : Hp} {wa : Addr} {L : L5} (s : Same H H') (h : WL H wa L) : WL H' wa L := ⟨s _ _ h.l, fun x hx => s _ _ (h.t x hx), fun x hx => s _ _ (h.w x hx)⟩
theorem EI.same {H H1 H2 H3 : Hp} {sa la : Addr} {W W' : List Q3} {Ll : L5} {bs : List Addr} {n m d : Nat} (s : Same H2 H3) (h : EI H H1 H2 sa la W W' Ll bs n m d) : EI H H1 H3 sa la W W' Ll bs n m d := ⟨h.s.trans s, fun b o n1 n2 hb => s _ _ (h.k b o n1 n2 hb), h.sn.same s, h.wl.same s, h.e, h.ok, h.ln, h.ne⟩
def spExp : Sp := fun vs H Q _ => ∃ (r r2 : Addr) (as as2 : List Addr) (c c2 : List (List (Int × Int))) (I : Int), vs = [.ref r, .ref r2] ∧ LPr H r as c ∧ LPr H r2 as2 c2 ∧ 1 ≤ I ∧ I ≤ 100 ∧ (∀ q ∈ c, (q.length : Int) = I) ∧ (∀ q ∈ c2, (q.length : Int) = I) ∧ (∀ q ∈ c, ∀ p ∈ q, 0 ≤ p.1 ∧ p.1 < (c.length : Int)) ∧ (∀ q ∈ c2, ∀ p ∈ q, 0 ≤ p.1 ∧ p.1 < (c2.length : Int)) ∧ c ≠ [] ∧ c2 ≠ [] ∧ c.length ≤ 100 ∧ c2.length ≤ 100 ∧
  (∀ H', Same H H' → Res c c2 I.toNat none → Q .non H') ∧ ∀ (H' : Hp) (t : Addr) (w : List Int), Same H H' → H' t = some (.lst (w.map V.int)) → Res c c2 I.toNat (some w) → Q (.ref t) H'
theorem cal_exp (T : Txt K mg) : C8.Cal P w K mg base 1 "_law_expected" spExp [] := by
  obtain ⟨f, fd, F, hm, hb⟩ := T.h_law_expected
  refine ⟨f, fd, _, [], F.ok sc_law_expected (fun vs H Q E h => ?_) (fun cdv A outer s H vs Q E hr h => ?_), hm, F.kp, hb, .nil⟩
  · obtain ⟨_, _, _, _, _, _, _, rfl, _⟩ := h
    rfl
  · obtain ⟨r, r2, as, as2, c, c2, I, rfl, hL, hL2, i1, i2, hw, hw2, hst, hst2, hne, hne2, b1, b2, q3, q4⟩ := h
    refine ⟨_, (pss_cons
      (ps_set (i := 2) sc_law_expected.nd rfl (Or.inl rfl) (pe_lst (pa_cons (pe_tup (pa_cons pe_int (pa_cons pe_int (pa_cons (pe_lst pa_nil) pa_nil)))) pa_nil)))
      (pss_cons
      (ps_set (i := 3) sc_law_expected.nd rfl (Or.inl rfl) (pe_lst (pa_cons (pe_tup (pa_cons pe_int (pa_cons pe_int pa_nil))) pa_nil)))
      (pss_cons
      (ps_for PassesOwn.never rfl (pi_range1 (by rfl) T.z_range (pa_cons (pe_op op_add (pe_op op_mul (pe_callB (call_lenK (K := K) rfl) (by rfl) T.z_len PySem.boot_len (pa_cons (pv 0) pa_nil)) (pe_callB (call_lenK (K := K) rfl) (by rfl) T.z_len PySem.boot_len (pa_cons (pv 1) pa_nil))) pe_int) pa_nil)) (pg_name (i := 4) sc_law_expected.nd rfl (.inl rfl)) (pss_cons
      (ps_set (i := 5) sc_law_expected.nd rfl (Or.inl rfl) (pe_lst pa_nil))
      (pss_cons
      (ps_for PassesOwn.never rfl (pi_list (pv 2)) (pg_name (i := 6) sc_law_expected.nd rfl (.inl rfl)) (pss_one
      (ps_for PassesOwn.never rfl (pi_range1 (by rfl) T.z_range (pa_cons (pe_callB (call_lenK (K := K) rfl) (by rfl) T.z_len PySem.boot_len (pa_cons (pe_ix (ix_listK (K := K) rfl) (pv 0) pe_int (fun _ _ => rfl)) pa_nil)) pa_nil)) (pg_name (i := 7) sc_law_expected.nd rfl (.inl rfl)) (pss_cons
      (ps_set (i := 8) sc_law_expected.nd rfl (Or.inl rfl) (pe_ix (ix_listK (K := K) rfl) (pe_ix (ix_listK (K := K) rfl) (pv 0) (pe_ix (ix_tupK (K := K) rfl) (pv 6) pe_int (fun _ _ => rfl)) (fun _ _ => rfl)) (pv 7) (fun _ _ => rfl)))
      (pss_cons
      (ps_set (i := 9) sc_law_expected.nd rfl (Or.inl rfl) (pe_ix (ix_listK (K := K) rfl) (pe_ix (ix_listK (K := K) rfl) (pv 1) (pe_ix (ix_tupK (K := K) rfl) (pv 6) pe_int (fun _ _ => rfl)) (fun _ _ => rfl)) (pv 7) (fun _ _ => rfl)))
      (pss_cons
      (ps_if (pt_cmpR op_ne (pe_ix (ix_tupK (K := K) rfl) (pv 8) pe_int (fun _ _ => rfl)) (pe_ix (ix_tupK (K := K) rfl) (pv 9) pe_int (fun _ _ => rfl)) (nomark _)) (pss_one
      (ps_ret (pe_op op_cat (pe_ix (ix_tupK (K := K) rfl) (pv 6) pe_int (fun _ _ => rfl)) (pe_lst (pa_cons (pv 7) pa_nil))))) pss_nil)
      (pss_one
      (ps_if (pt_cmpR (op_notInDK (K := K) rfl (units65 hr)) (pe_tup (pa_cons (pe_ix (ix_tupK (K := K) rfl) (pv 8) pe_int (fun _ _ => rfl)) (pa_cons (pe_ix (ix_tupK (K := K) rfl) (pv 9) pe_int (fun _ _ => rfl)) pa_nil))) (pv 3) (by rfl)) (pss_cons
      (ps_expr (pe_bm PySem.F.plainAttrs_list PySem.F.slot_list_append PySem.F.type_list_append mt_append (pv 3) (pa_cons (pe_tup (pa_cons (pe_ix (ix_tupK (K := K) rfl) (pv 8) pe_int (fun _ _ => rfl)) (pa_cons (pe_ix (ix_tupK (K := K) rfl) (pv 9) pe_int (fun _ _ => rfl)) pa_nil))) pa_nil)))
      (pss_one
      (ps_expr (pe_bm PySem.F.plainAttrs_list PySem.F.slot_list_append PySem.F.type_list_append mt_append (pv 5) (pa_cons (pe_tup (pa_cons (pe_ix (ix_tupK (K := K) rfl) (pv 8) pe_int (fun _ _ => rfl)) (pa_cons (pe_ix (ix_tupK (K := K) rfl) (pv 9) pe_int (fun _ _ => rfl)) (pa_cons (pe_op op_cat (pe_ix (ix_tupK (K := K) rfl) (pv 6) pe_int (fun _ _ => rfl)) (pe_lst (pa_cons (pv 7) pa_nil))) pa_nil)))) pa_nil))))) pss_nil))))))))
      (pss_one
      (ps_set (i := 2) sc_law_expected.nd rfl (Or.inl rfl) (pv 5))))))
      (pss_one
      (ps_ret pe_non))))), ?_⟩
    have hc1 : 0 < c.length := List.length_pos_iff.mpr hne
    have hc2 : 0 < c2.length := List.length_pos_iff.mpr hne2
    have hNN : c.length * c2.length ≤ 10000 := Nat.mul_le_mul b1 b2
    refine ⟨Nat.zero_le _, fun b hb => ⟨by show 3 ≤ sizeLine; decide, fun t ht => ⟨by show 1 ≤ sizeLine; decide, fun wa hwa => ⟨by show 2 ≤ sizeLine; decide, fun t2 ht2 => ⟨by show 1 ≤ sizeLine; decide, fun sa hsa => ?_⟩⟩⟩⟩⟩
    have s5 : Same H (upd (upd (upd (upd (upd H b (.lst [])) t (.tup [.int 0, .int 0, .ref b])) wa (.lst [.ref t])) t2 (.tup [.int 0, .int 0])) sa (.lst [.ref t2])) := fun z o h => same_new hsa _ _ (same_new ht2 _ _ (same_new hwa _ _ (same_new ht _ _ (same_new hb _ _ h))))
    have eb := same_new hsa (o := .lst [.ref t2]) _ _ (same_new ht2 (o := .tup [.int 0, .int 0]) _ _ (same_new hwa (o := .lst [.ref t]) _ _ (same_new ht (o := .tup [.int 0, .int 0, .ref b]) _ _ (upd_same (H := H) (a := b) (o := .lst [])))))
    have et := same_new hsa (o := .lst [.ref t2]) _ _ (same_new ht2 (o := .tup [.int 0, .int 0]) _ _ (same_new hwa (o := .lst [.ref t]) _ _ (upd_same (H := upd H b (.lst [])) (a := t) (o := .tup [.int 0, .int 0, .ref b]))))
    have ewa := same_new hsa (o := .lst [.ref t2]) _ _ (same_new ht2 (o := .tup [.int 0, .int 0]) _ _ (upd_same (H := upd (upd H b (.lst [])) t (.tup [.int 0, .int 0, .ref b])) (a := wa) (o := .lst [.ref t])))
    have et2 := same_new hsa (o := .lst [.ref t2]) _ _ (upd_same (H := upd (upd (upd H b (.lst [])) t (.tup [.int 0, .int 0, .ref b])) wa (.lst [.ref t])) (a := t2) (o := .tup [.int 0, .int 0]))
    have esa := upd_same (H := upd (upd (upd (upd H b (.lst [])) t (.tup [.int 0, .int 0, .ref b])) wa (.lst [.ref t])) t2 (.tup [.int 0, .int 0])) (a := sa) (o := .lst [.ref t2])
    have nbs : b ≠ sa := fun z => by rw [← z, same_new ht2 _ _ (same_new hwa _ _ (same_new ht _ _ upd_same))] at hsa; cases hsa
    have nws : wa ≠ sa := fun z => by rw [← z, same_new ht2 _ _ upd_same] at hsa; cases hsa
    have nbw : b ≠ wa := fun z => by rw [← z, same_new ht _ _ upd_same] at hwa; cases hwa
    have hsaH : H sa = none := un_new (un_new (un_new (un_new hsa)))
    generalize upd (upd (upd (upd (upd H b (.lst [])) t (.tup [.int 0, .int 0, .ref b])) wa (.lst [.ref t])) t2 (.tup [.int 0, .int 0])) sa (.lst [.ref t2]) = H5 at s5 eb et ewa et2 esa ⊢
    clear hb ht hwa ht2 hsa
    have wl5 : WL H5 wa [(t, b, (0, 0), [])] := ⟨ewa, fun x hx => by rw [List.mem_singleton.mp hx]; exact et, fun x hx => by rw [List.mem_singleton.mp hx]; exact eb⟩
    have sn5 : SN H5 sa [t2] [(0, 0)] := ⟨esa, rfl, fun j z hz => by
      cases j with
      | zero => cases hz; exact ⟨0, 0, rfl, et2⟩
      | succ j => cases hz⟩
    have wok0 : Wok c.length c2.length [((0, 0), [])] := ⟨by show ([(0, 0)] : List (Int × Int)).Nodup; simp, fun e he => by rw [List.mem_singleton.mp he]; exact ⟨Int.le_refl _, by show (0 : Int) < _; omega⟩, fun e he => by rw [List.mem_singleton.mp he]; exact ⟨Int.le_refl _, by show (0 : Int) < _; omega⟩⟩
    have gl1 : (as.map V.ref).length = c.length := by rw [List.length_map, hL.2.len]
    have gl2 : (as2.map V.ref).length = c2.length := by rw [List.length_map, hL2.2.len]
    refine ⟨_, rfl, r, _, rfl, .inl (.of (s5 _ _ hL.1)), _, rfl, r2, _, rfl, .inl (.of (s5 _ _ hL2.1)), _, _, rfl, rfl, ?_, _, _, rfl, rfl, ?_⟩
    · rw [gl1]
      exact .inl ⟨by omega, by omega⟩
    have en : (((as.map V.ref).length : Nat) : Int) * (((as2.map V.ref).length : Nat) : Int) + 1 = ((c.length * c2.length + 1 : Nat) : Int) := by
      rw [gl1, gl2]
      rfl
    refine ⟨_, rfl, ?_⟩
    rw [en]
    refine ⟨by omega, by omega, ?_⟩
    rw [Int.toNat_natCast]
    have hrH : r ≠ sa := fun z => by have := hL.1; rw [z, hsaH] at this; cases this
    have hr2H : r2 ≠ sa := fun z => by have := hL2.1; rw [z, hsaH] at this; cases this
    refine for_range (lo := 0) (n := c.length * c2.length + 1) (fun i σ' H' => ∃ (b : Nat) (W : List Q3) (Lw : L5) (bs : List Addr) (wa : Addr) (v4 v5 v6 v7 v8 v9 : Option V), σ' = [some (.ref r), some (.ref r2), some (.ref wa), some (.ref sa), v4, v5, v6, v7, v8, v9] ∧ Same H H' ∧ WL H' wa Lw ∧ SN H' sa bs (W.map (fun e : Q3 => e.1)) ∧ GG c c2 I.toNat b = .inr W ∧ W.drop b = qs Lw ∧ b ≤ W.length ∧ Wok c.length c2.length W ∧ (i ≤ b ∨ Lw = []) ∧ (∀ e ∈ Lw, e.2.2.2.length ≤ b) ∧ wa ≠ sa ∧ ∀ x ∈ Lw, x.2.1 ≠ sa)
      ⟨0, [((0, 0), [])], [(t, b, (0, 0), [])], [t2], wa, _, _, _, _, _, _, rfl, s5, wl5, sn5, rfl, rfl, Nat.zero_le _, wok0, .inl (Nat.le_refl _), fun e he => by rw [List.mem_singleton.mp he]; exact Nat.le_refl 0, nws, fun x hx => by rw [List.mem_singleton.mp hx]; exact nbs⟩ ?_ ?_
    · clear s5 eb et ewa et2 esa nbs nws nbw wl5 sn5 wok0
      rintro i σ' H8 hi ⟨b, W, Lw, bs, wa, v4, v5, v6, v7, v8, v9, rfl, s8, wl, sn, hG, hd, hbl, hW, hib, hwl, nws, nbs⟩
      refine ⟨Nat.zero_le _, fun la hla => ?_⟩
      have sl := same_new (o := .lst []) hla
      have ela := upd_same (H := H8) (a := la) (o := .lst [])
      have hlaH : H la = none := s8.free hla
      have nls : la ≠ sa := fun z => by rw [z, sn.1] at hla; cases hla
      have nlw : wa ≠ la := fun z => by rw [← z, wl.l] at hla; cases hla
      have nlb : ∀ x ∈ Lw, x.2.1 ≠ la := fun x hx z => by rw [← z, wl.w x hx] at hla; cases hla
      have esa8 := sl _ _ sn.1
      have wl1 : WL (upd H8 la (.lst [])) wa Lw := ⟨sl _ _ wl.l, fun x hx => sl _ _ (wl.t x hx), fun x hx => sl _ _ (wl.w x hx)⟩
      have sn1 := sn.same sl
      have s81 := s8.trans sl
      generalize upd H8 la (.lst []) = H1 at ela esa8 wl1 sn1 s81 ⊢
      clear sl wl sn s8 hla
      have hW0 := wok_len hW
      have hLl : Lw.length = W.length - b := by
        have := congrArg List.length hd
        rw [List.length_drop] at this
        rw [this]
        exact (List.length_map ..).symm
      refine ⟨_, rfl, wa, rfl, ⟨_, .of wl1.l⟩, for_list (K := K) (a := wa) (xs := Lw.map fun x => V.ref x.1) (fun j σ' H2 => ∃ (W' : List Q3) (Ll : L5) (bs' : List Addr) (v6 v7 v8 v9 : Option V), σ' = [some (.ref r), some (.ref r2), some (.ref wa), some (.ref sa), some (.int (0 + (i : Int))), some (.ref la), v6, v7, v8, v9] ∧ GG c c2 I.toNat (b + j) = .inr W' ∧ (j = 0 → Ll = []) ∧ EI H H1 H2 sa la W W' Ll bs' c.length c2.length (b + j))
        ⟨W, [], bs, _, _, _, _, rfl, hG, fun _ => rfl, s81, fun z o _ _ h => h, sn1, ⟨ela, by simp, by simp⟩, (List.append_nil _).symm, hW, by simp, by simp⟩ (fun j σ' H2 _ ⟨_, _, _, _, _, _, _, _, _, _, z⟩ => .of (z.k _ _ nws nlw wl1.l)) ?_ ?_⟩
      · rintro j y σ' H2 hj ⟨W', Ll, bs', v6, v7, v8, v9, rfl, hGj, _, ei⟩
        rw [List.getElem?_map] at hj
        obtain ⟨x0, hx0, rfl⟩ := Option.map_eq_some_iff.mp hj
        have hm0 := List.mem_of_getElem? hx0
        have hjl := (List.getElem?_eq_some_iff.mp hx0).1
        have hwk : W[b + j]? = some x0.2.2 := by
          rw [← List.getElem?_drop, hd]
          show (Lw.map (·.2.2))[j]? = _
          rw [List.getElem?_map, hx0]
          rfl
        have hgk : W'[b + j]? = some x0.2.2 := by
          have hlt := (List.getElem?_eq_some_iff.mp hwk).1
          rw [ei.e, List.getElem?_append_left hlt]
          exact hwk
        have hmW : x0.2.2 ∈ W := List.mem_of_getElem? hwk
        have ha0 := hW.i1 _ hmW
        have hb0 := hW.i2 _ hmW
        have hw0 := hwl x0 hm0
        obtain ⟨ra0, hra0⟩ : ∃ ra0, as[0]? = some ra0 := ⟨_, List.getElem?_eq_getElem (by rw [hL.2.len]; exact hc1)⟩
        obtain ⟨bs0, row0, h01, h02, h03, _⟩ := hL.2.g 0 ra0 hra0
        have hrow0 := hw row0 (List.mem_of_getElem? h01)
        refine ⟨_, rfl, r, _, _, .ref ra0, rfl, rfl, .of (ei.s _ _ hL.1), atI_nat (j := 0) (by rw [List.getElem?_map, hra0]; rfl), ra0, _, rfl, .inl (.of (ei.s _ _ h02)), ?_⟩
        have hln : (((bs0.map V.ref).length : Nat) : Int) = I := by rw [List.length_map, h03]; exact hrow0
        refine ⟨_, rfl, by rw [hln]; omega, by rw [hln]; omega, ?_⟩
        rw [hln]
        refine for_range (lo := 0) (n := I.toNat) (fun l σ' H3 => ∃ (W'' : List Q3) (Ll : L5) (bs' : List Addr) (v7 v8 v9 : Option V), σ' = [some (.ref r), some (.ref r2), some (.ref wa), some (.ref sa), some (.int (0 + (i : Int))), some (.ref la), some (.ref x0.1), v7, v8, v9] ∧ lets c c2 x0.2.2 W' l = .inr W'' ∧ EI H H1 H3 sa la W W'' Ll bs' c.length c2.length (b + (j + 1)))
          ⟨W', Ll, bs', _, _, _, rfl, rfl, ei.s, ei.k, ei.sn, ei.wl, ei.e, ei.ok, fun e he => Nat.le_succ_of_le (ei.ln e he), ei.ne⟩ ?_ ?_
        · clear ei
          rintro l σ' HA hl ⟨W'', Ll, bs', v7, v8, v9, rfl, hlt, ei⟩
          have hjI : (l : Int) < I := by omega
          have hj0 : (0 : Int) ≤ (l : Int) := Int.ofNat_nonneg l
          have wA := wl1.k2 ei.k esa8 ela nws nlw fun x hx => ⟨nbs x hx, nlb x hx⟩
          have ht0 := wA.t x0 hm0
          have hwa := wA.w x0 hm0
          obtain ⟨ra, cs, rb, c1, c2', c3, c4, r1, hr1, hr1'⟩ := cellAt (hL.2.same ei.s) hw ha0.1 ha0.2 hj0 hjI
          obtain ⟨ra2, cs2, rb2, d1, d2, d3, d4, r3, hr3, hr3'⟩ := cellAt (hL2.2.same ei.s) hw2 hb0.1 hb0.2 hj0 hjI
          have hst1 := hst r1 hr1 _ hr1'
          have hst2' := hst2 r3 hr3 _ hr3'
          rw [show (0 : Int) + (l : Int) = (l : Int) from Int.zero_add _]
          refine ⟨_, rfl, _, rfl, x0.1, _, _, .int x0.2.2.1.1, rfl, rfl, .of ht0, at0, r, _, _, .ref ra, rfl, rfl, .of (ei.s _ _ hL.1), atI_int ha0.1 (by rw [List.getElem?_map, c1]; rfl), _, rfl, ra, _, _, .ref rb, rfl, rfl, .of c2', atI_int hj0 (by rw [List.getElem?_map, c3]; rfl), ?_⟩
          refine ⟨_, rfl, _, rfl, x0.1, _, _, .int x0.2.2.1.2, rfl, rfl, .of ht0, atI_nat (j := 1) rfl, r2, _, _, .ref ra2, rfl, rfl, .of (ei.s _ _ hL2.1), atI_int hb0.1 (by rw [List.getElem?_map, d1]; rfl), _, rfl, ra2, _, _, .ref rb2, rfl, rfl, .of d2, atI_int hj0 (by rw [List.getElem?_map, d3]; rfl), ?_⟩
          have hlw : (x0.2.2.2.map V.int).length + 1 ≤ 20000 := by rw [List.length_map]; omega
          have hstep := lets_snoc hlt
          refine ⟨_, rfl, rb, _, _, .int (cellZ c x0.2.2.1.1 (l : Int)).2, rfl, rfl, .of c4, atI_nat (j := 1) rfl, _, rfl, rb2, _, _, .int (cellZ c2 x0.2.2.1.2 (l : Int)).2, rfl, rfl, .of d4, atI_nat (j := 1) rfl, rfl, _, rfl, ite_ne (fun kk => ?_) (fun kk => ?_)⟩
          · refine ⟨_, rfl, x0.1, _, _, .ref x0.2.1, rfl, rfl, .of ht0, atI_nat (j := 2) rfl, _, rfl, by show 1 ≤ sizeLine; decide, fun l1 hl1 => ?_⟩
            have sB := same_new (o := .lst [V.int (l : Int)]) hl1
            refine ⟨x0.2.1, l1, _, _, rfl, rfl, sB _ _ hwa, upd_same, Nat.le_trans hlw (by decide), fun t ht => ?_⟩
            refine q4 _ t (x0.2.2.2 ++ [(l : Int)]) ((ei.s.trans sB).trans (same_new ht)) (by rw [upd_same, List.map_append]; rfl) ⟨b + j + 1, .inl ⟨_, rfl, ?_⟩⟩
            rw [gg_inr hGj hgk]
            have hs1 : lets c c2 x0.2.2 W' (l + 1) = .inl (x0.2.2.2 ++ [(l : Int)]) := by
              rw [hstep]
              unfold stepL
              rw [if_pos kk]
            have := lets_inl hs1 (I.toNat - (l + 1))
            rwa [show l + 1 + (I.toNat - (l + 1)) = I.toNat by omega] at this
          have kk' : ¬ ((cellZ c x0.2.2.1.1 (l : Int)).2 ≠ (cellZ c2 x0.2.2.1.2 (l : Int)).2) := fun z => z kk
          generalize e1' : (cellZ c x0.2.2.1.1 (l : Int)).1 = ta at hst1 c4 ⊢
          generalize e2' : (cellZ c2 x0.2.2.1.2 (l : Int)).1 = tb at hst2' d4 ⊢
          generalize (cellZ c x0.2.2.1.1 (l : Int)).2 = ea at c4
          generalize (cellZ c2 x0.2.2.1.2 (l : Int)).2 = eb at d4
          refine ⟨_, rfl, rb, _, _, .int ta, rfl, rfl, .of c4, at0, _, rfl, rb2, _, _, .int tb, rfl, rfl, .of d4, at0, by show 2 ≤ sizeLine; decide, fun t0 ht0' => ?_⟩
          have sB := same_new (o := .tup [.int ta, .int tb]) ht0'
          have et0 : TupI (upd HA t0 (.tup [.int ta, .int tb])) t0 [ta, tb] := upd_same
          generalize upd HA t0 (.tup [.int ta, .int tb]) = HB at sB et0 ⊢
          have snB := ei.sn.same sB
          refine ⟨_, rfl, .tuple [.int ta, .int tb], (W''.map (fun e : Q3 => e.1)).map dPr, dp_tup et0, .lst (.of snB.1) (dpAll_pr snB.2.1 snB.2.2), shaped_pr _ _, shaped_prs _, _, rfl, ?_⟩
          rw [any_mem]
          by_cases hin : (ta, tb) ∈ W''.map (fun e : Q3 => e.1)
          · rw [decide_eq_true hin]
            refine ite_f rfl ?_
            refine ⟨W'', Ll, bs', _, _, _, rfl, ?_, ei.same sB⟩
            rw [hstep]
            unfold stepL
            rw [if_neg kk', if_pos (by rw [e1', e2']; exact hin)]
          rw [decide_eq_false hin]
          refine ite_t rfl ?_
          have eiB := ei.same sB
          have hbl' : bs'.length ≤ 10000 := by
            have h1 := wok_len ei.ok
            have h2 := ei.sn.2.1
            rw [List.length_map] at h2
            omega
          have hLl' : Ll.length ≤ 10000 := by
            have h1 := wok_len ei.ok
            have h2 := congrArg List.length ei.e
            rw [List.length_append] at h2
            have h3 : (qs Ll).length = Ll.length := List.length_map ..
            omega
          refine ⟨_, rfl, .inl ⟨rfl, _, .of snB.1⟩, _, rfl, rb, _, _, .int ta, rfl, rfl, .of (sB _ _ c4), at0, _, rfl, rb2, _, _, .int tb, rfl, rfl, .of (sB _ _ d4), at0, by show 2 ≤ sizeLine; decide, fun t1 ht1 => ?_⟩
          have sC := sB.trans (same_new (o := .tup [.int ta, .int tb]) ht1)
          have eiC := ei.same sC
          have et1 := upd_same (H := HB) (a := t1) (o := .tup [.int ta, .int tb])
          generalize upd HB t1 (.tup [.int ta, .int tb]) = HC at sC eiC et1 ⊢
          refine ⟨sa, _, _, rfl, rfl, eiC.sn.1, by rw [List.length_map]; exact Nat.lt_of_le_of_lt hbl' (by decide), ?_⟩
          have n1s : t1 ≠ sa := tup_ne et1 eiC.sn.1
          have n1l : t1 ≠ la := tup_ne et1 eiC.wl.l
          have kD : ∀ z o, z ≠ sa → HC z = some o → (upd HC sa (.lst (bs'.map V.ref ++ [.ref t1]))) z = some o := fun z o n h => by rw [upd_ne n]; exact h
          have esD := upd_same (H := HC) (a := sa) (o := .lst (bs'.map V.ref ++ [.ref t1]))
          generalize upd HC sa (.lst (bs'.map V.ref ++ [.ref t1])) = HD at kD esD ⊢
          have elD := kD _ _ nls eiC.wl.l
          have c4D := kD _ _ (tup_ne (sC _ _ c4) eiC.sn.1) (sC _ _ c4)
          have d4D := kD _ _ (tup_ne (sC _ _ d4) eiC.sn.1) (sC _ _ d4)
          have htD := kD _ _ (tup_ne (sC _ _ ht0) eiC.sn.1) (sC _ _ ht0)
          have hwD := kD _ _ (nbs x0 hm0) (sC _ _ hwa)
          have et1D := kD _ _ n1s et1
          refine ⟨_, rfl, .inl ⟨rfl, _, .of elD⟩, _, rfl, rb, _, _, .int ta, rfl, rfl, .of c4D, at0, _, rfl, rb2, _, _, .int tb, rfl, rfl, .of d4D, at0, _, rfl, x0.1, _, _, .ref x0.2.1, rfl, rfl, .of htD, atI_nat (j := 2) rfl, _, rfl, by show 1 ≤ sizeLine; decide, fun l1 hl1 => ?_⟩
          have sE := same_new (o := .lst [V.int (l : Int)]) hl1
          have el1 := upd_same (H := HD) (a := l1) (o := .lst [V.int (l : Int)])
          generalize upd HD l1 (.lst [V.int (l : Int)]) = HE at sE el1 ⊢
          refine ⟨x0.2.1, l1, _, _, rfl, rfl, sE _ _ hwD, el1, Nat.le_trans hlw (by decide), fun w1 hw1 => ?_⟩
          have sF := sE.trans (same_new (o := .lst (x0.2.2.2.map V.int ++ [V.int (l : Int)])) hw1)
          have ew1 := upd_same (H := HE) (a := w1) (o := .lst (x0.2.2.2.map V.int ++ [V.int (l : Int)]))
          have nws1 : w1 ≠ sa := fun z => by rw [z, sE _ _ esD] at hw1; cases hw1
          have nwl1 : w1 ≠ la := fun z => by rw [z, sE _ _ elD] at hw1; cases hw1
          generalize upd HE w1 (.lst (x0.2.2.2.map V.int ++ [V.int (l : Int)])) = HF at sF ew1 ⊢
          refine ⟨by show 3 ≤ sizeLine; decide, fun t2 ht2 => ?_⟩
          have sG := sF.trans (same_new (o := .tup [.int ta, .int tb, .ref w1]) ht2)
          have ew1 := same_new (o := .tup [.int ta, .int tb, .ref w1]) ht2 _ _ ew1
          have et2 := upd_same (H := HF) (a := t2) (o := .tup [.int ta, .int tb, .ref w1])
          generalize upd HF t2 (.tup [.int ta, .int tb, .ref w1]) = HG at sG ew1 et2 ⊢
          have n2l : t2 ≠ la := tup_ne et2 (sG _ _ elD)
          refine ⟨la, _, _, rfl, rfl, sG _ _ elD, by rw [List.length_map]; exact Nat.lt_of_le_of_lt hLl' (by decide), ?_⟩
          have kT : ∀ z o, z ≠ sa → z ≠ la → HC z = some o → (upd HG la (.lst ((Ll.map fun x => V.ref x.1) ++ [.ref t2]))) z = some o := fun z o m1 m2 h => by
            rw [upd_ne m2]
            exact sG _ _ (kD _ _ m1 h)
          have hstq : stepL c c2 x0.2.2 W'' l = .inr (W'' ++ [((ta, tb), x0.2.2.2 ++ [(l : Int)])]) := by
            unfold stepL
            rw [if_neg kk', if_neg (by rw [e1', e2']; exact hin), e1', e2']
          refine ⟨W'' ++ [((ta, tb), x0.2.2.2 ++ [(l : Int)])], Ll ++ [(t2, w1, (ta, tb), x0.2.2.2 ++ [(l : Int)])], bs' ++ [t1], _, _, _, rfl, by rw [hstep]; exact hstq, fun z o hz => kT _ _ (ne_of_none hz hsaH) (ne_of_none hz hlaH) (eiC.s _ _ hz), fun z o m1 m2 hz => kT _ _ m1 m2 (eiC.k _ _ m1 m2 hz), ⟨?_, ?_, fun k z hk => ?_⟩, ⟨?_, fun x hx => ?_, fun x hx => ?_⟩, ?_, ?_, fun x hx => ?_, fun x hx => ?_⟩
          · rw [upd_ne nls.symm, List.map_append]
            exact sG _ _ esD
          · rw [List.length_append, List.map_append, List.length_append, ei.sn.2.1]
            rfl
          · rw [List.map_append]
            rcases snoc_get hk with ⟨h0, h1⟩ | ⟨h1, h2⟩
            · obtain ⟨u, v, g1, g2⟩ := eiC.sn.2.2 k z h1
              exact ⟨u, v, by rw [List.getElem?_append_left (by rw [← ei.sn.2.1]; exact h0)]; exact g1, kT _ _ (tup_ne g2 eiC.sn.1) (tup_ne g2 eiC.wl.l) g2⟩
            · subst h2
              exact ⟨ta, tb, by rw [h1, ei.sn.2.1, List.getElem?_append_right (Nat.le_refl _), Nat.sub_self]; rfl, kT _ _ n1s n1l et1⟩
          · rw [upd_same, List.map_append]
            rfl
          · rcases List.mem_append.mp hx with y | y
            · have g := eiC.wl.t x y
              exact kT _ _ (tup_ne g eiC.sn.1) (tup_ne g eiC.wl.l) g
            · rw [List.mem_singleton.mp y]
              show (upd HG la _) t2 = _
              rw [upd_ne n2l]
              exact et2
          · rcases List.mem_append.mp hx with y | y
            · have g := eiC.ne x y
              exact kT _ _ g.1 g.2 (eiC.wl.w x y)
            · rw [List.mem_singleton.mp y]
              show (upd HG la _) w1 = _
              rw [upd_ne nwl1, ew1, List.map_append]
              rfl
          · show W'' ++ _ = W ++ (Ll ++ _).map _
            rw [List.map_append, ← List.append_assoc]
            show W'' ++ _ = (W ++ qs Ll) ++ _
            rw [← ei.e]
            rfl
          · exact (wok_step ei.ok (by rw [e1']; exact hst1) (by rw [e2']; exact hst2') hstq).1
          · rcases List.mem_append.mp hx with y | y
            · exact ei.ln x y
            · rw [List.mem_singleton.mp y]
              show (x0.2.2.2 ++ [(l : Int)]).length ≤ b + (j + 1)
              rw [List.length_append]
              show x0.2.2.2.length + 1 ≤ b + (j + 1)
              omega
          · rcases List.mem_append.mp hx with y | y
            · exact ei.ne x y
            · rw [List.mem_singleton.mp y]; exact ⟨nws1, nwl1⟩
        · rintro σ' HA ⟨W'', Ll, bs', v7, v8, v9, rfl, hlt, ei⟩
          exact ⟨W'', Ll, bs', _, _, _, _, rfl, by show GG c c2 I.toNat (b + j + 1) = _; rw [gg_inr hGj hgk]; exact hlt, fun z => absurd z (Nat.succ_ne_zero j), ei⟩
      · rintro σ' H2 ⟨W', Ll, bs', v6, v7, v8, v9, rfl, hGj, hz0, ei⟩
        rw [List.length_map] at hGj
        have hbL : b + Lw.length = W.length := by omega
        have hW' := wok_len ei.ok
        refine ⟨_, rfl, ?_⟩
        refine ⟨b + Lw.length, W', Ll, bs', la, _, _, _, _, _, _, rfl, ei.s, ei.wl, ei.sn, hGj, by rw [hbL, ei.e, List.drop_left], by rw [hbL, ei.e, List.length_append]; omega, ei.ok, ?_, fun e he => ?_, nls, fun x hx => (ei.ne x hx).1⟩
        · rcases hib with h | h
          · by_cases hz : Lw = []
            · right
              exact hz0 (by rw [List.length_map, hz]; rfl)
            · left
              have := List.length_pos_iff.mpr hz
              omega
          · right
            exact hz0 (by rw [List.length_map, h]; rfl)
        · have := ei.ln e he
          rwa [List.length_map] at this
    · rintro σ' H8 ⟨b, W, Lw, bs, wa, v4, v5, v6, v7, v8, v9, rfl, s8, wl, sn, hG, hd, hbl, hW, hib, hwl, nws, nbs⟩
      have hW0 := wok_len hW
      have hz : Lw = [] := by
        rcases hib with h | h
        · omega
        · exact h
      have hlen : W.length ≤ b := by
        have := congrArg List.length hd
        rw [List.length_drop, hz] at this
        have : W.length - b = 0 := this
        omega
      exact q3 _ s8 ⟨b, .inr ⟨rfl, W, hG, hlen⟩⟩
theorem lpr_kl {T : List Addr} {H H' : Hp} (k : KLs T H H') (hs : ∀ b ∈ T, ∃ ys, H b = some (.lst ys)) {x : Addr} {as : List Addr} {c : List (List (Int × Int))} (h : LPr H x as c) (hx : x ∉ T) (ha : ∀ a ∈ as, a ∉ T) : LPr H' x as c := ⟨k _ _ hx h.1, My.RP.keep h.2 (fun a hm o ho => k _ _ (ha a hm) ho) (fun b xs hb => k _ _ (fun z => by
  obtain ⟨ys, y⟩ := hs b z
  rw [hb] at y
  cases y) hb)⟩
theorem not2 {a d S : Addr} (h1 : a ≠ d) (h2 : a ≠ S) : a ∉ [d, S] := by simp [h1, h2]
theorem refs_inj : ∀ {xs ys : List Addr}, xs.map V.ref = ys.map V.ref → xs = ys
  | [], [], _ => rfl
  | [], _ :: _, h => by cases h
  | _ :: _, [], h => by cases h
  | x :: xs, y :: ys, h => by
    have h1 := List.cons.inj h
    rw [V.ref.inj h1.1, refs_inj h1.2]
theorem rp_set {H : Hp} {as : List Addr} {c : List (List (Int × Int))} (R : RP .lst H as c) {a0 p : Addr} {bs : List Addr} {t l : Int} {j : Nat} (h0 : H a0 = some (.lst (bs.map V.ref))) (hp : H p = some (.tup [.int t, .int l])) (hj : j < bs.length) :
    ∃ c' : List (List (Int × Int)), RP .lst (upd H a0 (.lst ((bs.map V.ref).set j (.ref p)))) as c' ∧ c'.length = c.length ∧ ∀ r' ∈ c', ∃ r ∈ c, r'.length = r.length ∧ ∀ q ∈ r', q ∈ r ∨ q = (t, l) := by
  refine ⟨(List.range c.length).map fun i => if as[i]? = some a0 then (c.getD i []).set j (t, l) else c.getD i [], ⟨by rw [List.length_map, List.length_range]; exact R.len, fun i a ha => ?_⟩, by rw [List.length_map, List.length_range], fun r' hr' => ?_⟩
  · obtain ⟨bs', row, h1, h2, h3, h4⟩ := R.g i a ha
    have hil := (List.getElem?_eq_some_iff.mp h1).1
    have hgd : c.getD i [] = row := by rw [List.getD_eq_getElem?_getD, h1]; rfl
    have hget : ((List.range c.length).map fun i => if as[i]? = some a0 then (c.getD i []).set j (t, l) else c.getD i [])[i]? = some (if as[i]? = some a0 then row.set j (t, l) else row) := by
      rw [List.getElem?_map, List.getElem?_range hil]
      show some (if as[i]? = some a0 then (c.getD i []).set j (t, l) else c.getD i []) = _
      rw [hgd]
    by_cases e : a = a0
    · subst e
      have eb : bs' = bs := refs_inj (by rw [h0] at h2; exact HO.lst.inj (Option.some.inj h2.symm))
      subst eb
      refine ⟨bs'.set j p, row.set j (t, l), by rw [hget, if_pos ha], by rw [upd_same, List.map_set], by rw [List.length_set, List.length_set]; exact h3, fun k b hb => ?_⟩
      by_cases ek : k = j
      · subst ek
        rw [List.getElem?_set_self (by omega)] at hb
        cases hb
        exact ⟨t, l, by rw [List.getElem?_set_self (by omega)], by rw [upd_ne (fun z => by rw [z, h0] at hp; cases hp)]; exact hp⟩
      · rw [List.getElem?_set_ne (Ne.symm ek)] at hb
        obtain ⟨u, v, g1, g2⟩ := h4 k b hb
        exact ⟨u, v, by rw [List.getElem?_set_ne (Ne.symm ek)]; exact g1, by rw [upd_ne (fun z => by rw [z, h0] at g2; cases g2)]; exact g2⟩
    · refine ⟨bs', row, by rw [hget, if_neg (fun z => e (Option.some.inj (ha.symm.trans z)))], by rw [upd_ne e]; exact h2, h3, fun k b hb => ?_⟩
      obtain ⟨u, v, g1, g2⟩ := h4 k b hb
      exact ⟨u, v, g1, by rw [upd_ne (fun z => by rw [z, h0] at g2; cases g2)]; exact g2⟩
  · obtain ⟨i, hi, rfl⟩ := List.mem_map.mp hr'
    have hil := List.mem_range.mp hi
    have hm : c.getD i [] ∈ c := by
      rw [List.getD_eq_getElem?_getD, List.getElem?_eq_getElem hil]
      exact List.getElem_mem hil
    by_cases e : as[i]? = some a0
    · refine ⟨_, hm, by rw [if_pos e, List.length_set], fun q hq => ?_⟩
      rw [if_pos e] at hq
      exact List.mem_or_eq_of_mem_set hq
    · refine ⟨_, hm, by rw [if_neg e], fun q hq => ?_⟩
      rw [if_neg e] at hq
      exact .inl hq
theorem ok_law {f : Addr} {fd : FuncData} (F : L2.Fun K "law" "law" s_law f fd) (T : Txt K mg) : FnOk P w K mg base CX0 8 f fd ["script"] (spLaw K) := by
  obtain ⟨cX, cI, cL, C, fI, fC, fdI, fdC, tk1, tk2, eI, eL, PC, hM, gC, F0, hB, CO, F1, hB1, gLL, gGL, eX⟩ := T.er
  have MK : MakX P w K mg base 2 "Machine" C (spInitM C cI) := ⟨fI, fdI, _, hM, ok_initM T eI PC gLL gGL F0, gC, hB⟩
  have C_law_draws : C8.Cal P w K mg base 1 "_law_draws" (spDraws K) [] := cal_draws T
  have C_law_take : C8.Cal P w K mg base 1 "_law_take" spTake [] := cal_take T
  have C_law_machine : C8.Cal P w K mg base 2 "_law_machine" spMach [] := cal_mach T
  have C_law_flat : C8.Cal P w K mg base 1 "_law_flat" spFlatM [] := cal_flatM T
  have C_law_outcome : C8.Cal P w K mg base 2 "_law_outcome" (spOut C) [] := cal_out T PC eX
  have C_law_expected : C8.Cal P w K mg base 1 "_law_expected" spExp [] := cal_exp T
  refine F.ok sc_law (fun vs H Q E h => ?_) (fun cdv A outer s H vs Q E hr h => ?_)
  · obtain ⟨a, ns, rfl, _⟩ := h
    rfl
  · obtain ⟨sa, ns, rfl, hS, hlen, q⟩ := h
    refine ⟨_, (pss_cons
      (ps_set (i := 1) sc_law.nd rfl (Or.inr rfl) (C8.pe_c C_law_draws hr (by decide) (by rfl) (pa_cons (pv 0) (pa_cons pe_int pa_nil))))
      (pss_cons
      (ps_set (i := 2) sc_law.nd rfl (Or.inl rfl) (pe_op op_add pe_int (C8.pe_c C_law_take hr (by decide) (by rfl) (pa_cons (pv 1) (pa_cons pe_int pa_nil)))))
      (pss_cons
      (ps_set (i := 3) sc_law.nd rfl (Or.inl rfl) (pe_op op_add pe_int (C8.pe_c C_law_take hr (by decide) (by rfl) (pa_cons (pv 1) (pa_cons pe_int pa_nil)))))
      (pss_cons
      (ps_set (i := 4) sc_law.nd rfl (Or.inl rfl) (pe_op op_sub (C8.pe_c C_law_take hr (by decide) (by rfl) (pa_cons (pv 1) (pa_cons pe_int pa_nil))) pe_int))
      (pss_cons
      (ps_asg (C8.pe_c C_law_machine hr (by decide) (by rfl) (pa_cons (pv 1) (pa_cons (pv 2) (pa_cons (pv 3) (pa_cons (pv 4) (pa_cons pe_int pa_nil)))))) (pg_tup (by rfl) (pgs_cons (pg_name (i := 5) sc_law.nd rfl (.inl rfl)) (pgs_cons (pg_name (i := 6) sc_law.nd rfl (.inr rfl)) pgs_nil))))
      (pss_cons
      (ps_set (i := 7) sc_law.nd rfl (Or.inl rfl) (pe_lst (pa_cons (pv 2) (pa_cons (pv 3) (pa_cons (pv 4) pa_nil)))))
      (pss_cons
      (ps_set (i := 8) sc_law.nd rfl (Or.inl rfl) (pe_lst (pa_cons (pe_callTy (call_list_ofK (K := K) rfl) (by rfl) T.z_list (by decide +kernel) (pa_cons (pv 5) pa_nil)) (pa_cons (C8.pe_c C_law_flat hr (by decide) (by rfl) (pa_cons (pv 6) pa_nil)) pa_nil))))
      (pss_cons
      (ps_set (i := 9) sc_law.nd rfl (Or.inl rfl) (C8.pe_c C_law_take hr (by decide) (by rfl) (pa_cons (pv 1) (pa_cons pe_int pa_nil))))
      (C8.pss_cut
      (ps_if (pt_cmpR op_eq (pv 9) pe_int (nomark _)) (pss_one
      (ps_asg pe_int (pg_sub (pv 7) (C8.pe_c C_law_take hr (by decide) (by rfl) (pa_cons (pv 1) (pa_cons pe_int pa_nil))) set_list))) pss_nil)
      (C8.pss_cut
      (ps_if (PW.pt (pw_and (pt_cmpR op_eq (pv 9) pe_int (nomark _)) (pw_and1 (pt_cmpR op_gt (pv 4) (pe_un un_neg pe_int) (nomark _))))) (pss_one
      (ps_asg (pe_op op_sub (pv 4) pe_int) (pg_sub (pv 7) pe_int set_list))) pss_nil)
      (C8.pss_cut
      (ps_if (pt_cmpR op_lt (pv 9) pe_int (nomark _)) (pss_cons
      (ps_set (i := 10) sc_law.nd rfl (Or.inl rfl) (C8.pe_c C_law_machine hr (by decide) (by rfl) (pa_cons (pv 1) (pa_cons (pe_ix (ix_listK (K := K) rfl) (pv 7) pe_int (fun _ _ => rfl)) (pa_cons (pe_ix (ix_listK (K := K) rfl) (pv 7) pe_int (fun _ _ => rfl)) (pa_cons (pe_ix (ix_listK (K := K) rfl) (pv 7) pe_int (fun _ _ => rfl)) (pa_cons pe_int pa_nil)))))))
      (pss_one
      (ps_set (i := 8) sc_law.nd rfl (Or.inl rfl) (pe_lst (pa_cons (pe_ix (ix_tupK (K := K) rfl) (pv 10) pe_int (fun _ _ => rfl)) (pa_cons (pe_ix (ix_tupK (K := K) rfl) (pv 10) pe_int (fun _ _ => rfl)) pa_nil)))))) pss_nil)
      (C8.pss_cut
      (ps_if (pt_cmpR op_eq (pv 9) pe_int (nomark _)) (pss_cons
      (ps_set (i := 11) sc_law.nd rfl (Or.inl rfl) (pe_ix (ix_seqK (K := K) rfl) (pe_ix (ix_listK (K := K) rfl) (pv 8) pe_int (fun _ _ => rfl)) (C8.pe_c C_law_take hr (by decide) (by rfl) (pa_cons (pv 1) (pa_cons (pe_callB (call_lenK (K := K) rfl) (by rfl) T.z_len PySem.boot_len (pa_cons (pv 6) pa_nil)) pa_nil))) (fun _ _ => rfl)))
      (pss_cons
      (ps_asg (pe_tup (pa_cons (C8.pe_c C_law_take hr (by decide) (by rfl) (pa_cons (pv 1) (pa_cons (pe_callB (call_lenK (K := K) rfl) (by rfl) T.z_len PySem.boot_len (pa_cons (pv 6) pa_nil)) pa_nil))) (pa_cons (C8.pe_c C_law_take hr (by decide) (by rfl) (pa_cons (pv 1) (pa_cons (pv 3) pa_nil))) pa_nil))) (pg_sub (pv 11) (C8.pe_c C_law_take hr (by decide) (by rfl) (pa_cons (pv 1) (pa_cons (pv 2) pa_nil))) set_list))
      (pss_one
      (ps_if (PW.pt (pw_and (pt_cmpR op_lt (pv 4) pe_int (nomark _)) (pw_and1 (pt_cmpR op_eq (C8.pe_c C_law_take hr (by decide) (by rfl) (pa_cons (pv 1) (pa_cons pe_int pa_nil))) pe_int (nomark _))))) (pss_cons
      (ps_set (i := 12) sc_law.nd rfl (Or.inl rfl) (pe_ix (ix_listK (K := K) rfl) (pv 8) pe_int (fun _ _ => rfl)))
      (pss_one
      (ps_asg (C8.pe_c C_law_take hr (by decide) (by rfl) (pa_cons (pv 1) (pa_cons (pv 3) pa_nil))) (pg_sub (pv 12) (C8.pe_c C_law_take hr (by decide) (by rfl) (pa_cons (pv 1) (pa_cons (pe_callB (call_lenK (K := K) rfl) (by rfl) T.z_len PySem.boot_len (pa_cons (pv 12) pa_nil)) pa_nil))) set_list)))) pss_nil)))) pss_nil)
      (C8.pss_cut
      (ps_if (pt_cmpR op_gt (pv 9) pe_int (nomark _)) (pss_cons
      (ps_set (i := 13) sc_law.nd rfl (Or.inl rfl) (pe_lst pa_nil))
      (pss_cons
      (ps_for PassesOwn.never rfl (pi_range1 (by rfl) T.z_range (pa_cons pe_int pa_nil)) (pg_name (i := 14) sc_law.nd rfl (.inl rfl)) (pss_one
      (ps_for PassesOwn.never rfl (pi_list (pv 6)) (pg_name (i := 11) sc_law.nd rfl (.inl rfl)) (pss_one
      (ps_expr (pe_bm PySem.F.plainAttrs_list PySem.F.slot_list_append PySem.F.type_list_append mt_append (pv 13) (pa_cons (pe_lc (own := [("pair", 19)]) (g := gName 19) (tt := tYes) rfl sc_law.nd (pi_list (pv 11)) (blkOk_by (N := N_law) (sc := defScope s_law) (by decide +kernel)) (fun _ _ _ _ _ => (pg_name (i := 19) sc_law.nd rfl (Or.inl rfl))) (fun _ _ _ _ _ => pts_nil) (fun _ _ _ _ _ => (pe_tup (pa_cons (pe_op op_add (pe_ix (ix_tupK (K := K) rfl) (pv 19) pe_int (fun _ _ => rfl)) (pe_op op_mul (pe_callB (call_lenK (K := K) rfl) (by rfl) T.z_len PySem.boot_len (pa_cons (pv 6) pa_nil)) (C8.pe_c C_law_take hr (by decide) (by rfl) (pa_cons (pv 1) (pa_cons pe_int pa_nil))))) (pa_cons (pe_ix (ix_tupK (K := K) rfl) (pv 19) pe_int (fun _ _ => rfl)) pa_nil))))) pa_nil)))))))
      (pss_one
      (ps_asg (pv 13) (pg_sub (pv 8) pe_int set_list))))) pss_nil)
      (pss_cons
      (ps_set (i := 15) sc_law.nd rfl (Or.inl rfl) (pe_makeN MK hr (by decide) (by rfl) (pa_cons (pv 2) (pa_cons (pv 3) (pa_cons (pv 4) (pa_cons (pe_callTy (call_list_ofK (K := K) rfl) (by rfl) T.z_list (by decide +kernel) (pa_cons (pv 5) pa_nil)) (pa_cons (C8.pe_c C_law_flat hr (by decide) (by rfl) (pa_cons (pv 6) pa_nil)) pa_nil)))))))
      (pss_cons
      (ps_set (i := 16) sc_law.nd rfl (Or.inl rfl) (pe_makeN MK hr (by decide) (by rfl) (pa_cons (pe_ix (ix_listK (K := K) rfl) (pv 7) pe_int (fun _ _ => rfl)) (pa_cons (pe_ix (ix_listK (K := K) rfl) (pv 7) pe_int (fun _ _ => rfl)) (pa_cons (pe_ix (ix_listK (K := K) rfl) (pv 7) pe_int (fun _ _ => rfl)) (pa_cons (pe_callTy (call_list_ofK (K := K) rfl) (by rfl) T.z_list (by decide +kernel) (pa_cons (pe_ix (ix_listK (K := K) rfl) (pv 8) pe_int (fun _ _ => rfl)) pa_nil)) (pa_cons (C8.pe_c C_law_flat hr (by decide) (by rfl) (pa_cons (pe_ix (ix_listK (K := K) rfl) (pv 8) pe_int (fun _ _ => rfl)) pa_nil)) pa_nil)))))))
      (pss_cons
      (ps_set (i := 17) sc_law.nd rfl (Or.inl rfl) (C8.pe_c C_law_outcome hr (by decide) (by rfl) (pa_cons (pv 15) (pa_cons (pv 16) pa_nil))))
      (pss_cons
      (ps_if (pt_cmpR (op_neDK (K := K) rfl hr.units) (pv 7) (pe_lst (pa_cons (pv 2) (pa_cons (pv 3) (pa_cons (pv 4) pa_nil)))) (nomark _)) (pss_one
      (ps_ret (pe_cmpR (op_eqDK (K := K) rfl hr.units) (pv 17) (pe_tup (pa_cons pe_str (pa_cons pe_str pa_nil))) (nomark _)))) pss_nil)
      (pss_cons
      (ps_if (pt_cmpR (op_neDK (K := K) rfl hr.units) (pe_ix (ix_listK (K := K) rfl) (pv 8) pe_int (fun _ _ => rfl)) (pv 5) (nomark _)) (pss_one
      (ps_ret (pe_cmpR (op_eqDK (K := K) rfl hr.units) (pv 17) (pe_lst pa_nil) (nomark _)))) pss_nil)
      (pss_cons
      (ps_set (i := 18) sc_law.nd rfl (Or.inl rfl) (C8.pe_c C_law_expected hr (by decide) (by rfl) (pa_cons (pv 6) (pa_cons (pe_ix (ix_listK (K := K) rfl) (pv 8) pe_int (fun _ _ => rfl)) pa_nil))))
      (pss_cons
      (ps_if (pt_cmpR op_isN (pv 18) pe_non (nomark _)) (pss_one
      (ps_ret (pe_cmpR op_isN (pv 17) pe_non (nomark _)))) pss_nil)
      (pss_one
      (ps_ret (pe_and (pe_callB (call_isiK' (K := K) rfl) (by rfl) T.z_isinstance (by decide +kernel) (pa_cons (pv 17) (pa_cons (pe_bltn (v := .ty "list") (by rfl) T.z_list (by decide +kernel) rfl) pa_nil))) (pe_and (pe_cmpR (op_eqDK (K := K) rfl hr.units) (pv 17) (pv 18) (nomark _)) (pe_one (pe_cmpR (op_eqDK (K := K) rfl hr.units) (C8.pe_c C_law_outcome hr (by decide) (by rfl) (pa_cons (pv 16) (pa_cons (pv 15) pa_nil))) (pv 18) (nomark _))))))))))))))))))))))))))), ?_⟩
    refine ⟨_, rfl, sa, ns, 150, rfl, hS, by decide, fun H1 d s1 hd0 d1 => ?_⟩
    refine ⟨_, rfl, d, 3, rfl, d1, by decide, fun iv ds i0 i1 => ?_⟩
    have d2 : Drw (upd H1 d (.lst (ds.map V.int))) d := Drw.own
    generalize upd H1 d (.lst (ds.map V.int)) = H2 at d2 ⊢
    refine ⟨_, _, rfl, rfl, ?_⟩
    show gName 2 (V.int (1 + iv)) _ _ _
    have hI1 : 1 ≤ 1 + iv := by omega
    have hI3 : 1 + iv ≤ 3 := by omega
    generalize 1 + iv = I at hI1 hI3 ⊢
    refine ⟨_, rfl, d, 2, rfl, d2, by decide, fun ov ds3 o0 o1 => ?_⟩
    have d3 : Drw (upd H2 d (.lst (ds3.map V.int))) d := Drw.own
    generalize upd H2 d (.lst (ds3.map V.int)) = H3 at d3 ⊢
    refine ⟨_, _, rfl, rfl, ?_⟩
    show gName 3 (V.int (1 + ov)) _ _ _
    have hO1 : 1 ≤ 1 + ov := by omega
    have hO3 : 1 + ov ≤ 2 := by omega
    generalize 1 + ov = O at hO1 hO3 ⊢
    refine ⟨_, rfl, d, 6, rfl, d3, by decide, fun lv ds4 l0 l1 => ?_⟩
    have d4 : Drw (upd H3 d (.lst (ds4.map V.int))) d := Drw.own
    generalize upd H3 d (.lst (ds4.map V.int)) = H4 at d4 ⊢
    refine ⟨_, _, rfl, rfl, ?_⟩
    show gName 4 (V.int (lv - 3)) _ _ _
    have hL0 : -3 ≤ lv - 3 := by omega
    have hL1 : lv - 3 ≤ 2 := by omega
    generalize lv - 3 = L at hL0 hL1 ⊢
    clear d1 d2 d3 s1 i0 i1 o0 o1 l0 l1
    refine ⟨_, rfl, _, rfl, _, rfl, _, rfl, d, I, O, L, 4, rfl, d4, by omega, by omega, by omega, by omega, by omega, by decide, by decide, fun H5 t oa r as op c k5 d5 et ho hL g1 g2 g3 hV hc4 => ?_⟩
    refine ⟨t, _, rfl, .of et, rfl, _, _, rfl, _, _, rfl, rfl, ?_⟩
    clear k5 et d4
    have hcn : 0 < c.length := List.length_pos_iff.mpr hV.ne
    have hopL := hV.op_len
    have hop : op.length ≤ 3 := by omega
    have hrw : ∀ q ∈ c, q.length ≤ 3 := fun q hq => by have := hV.w q hq; omega
    refine ⟨_, rfl, _, rfl, _, rfl, by show 3 ≤ sizeLine; decide, fun S nS => ?_⟩
    have s6 := same_new (o := .lst [.int I, .int O, .int L]) nS
    have eS := upd_same (H := H5) (a := S) (o := .lst [.int I, .int O, .int L])
    have nSd : S ≠ d := nd_of d5 nS
    generalize upd H5 S (.lst [.int I, .int O, .int L]) = H6 at s6 eS ⊢
    have d6 := d5.same s6
    have ho6 := s6 _ _ ho
    have hL6 := hL.same s6
    refine ⟨_, rfl, oa, _, rfl, .inl (.of ho6), fun PO nPO => ?_⟩
    have s7 := same_new (o := .lst (op.map V.int)) nPO
    have ePO := upd_same (H := H6) (a := PO) (o := .lst (op.map V.int))
    generalize upd H6 PO (.lst (op.map V.int)) = H7 at s7 ePO ⊢
    refine ⟨_, rfl, r, as, c, rfl, hL6.same s7, by omega, fun H8 PR as2 s8 hL8 nPR nas => ⟨by show 2 ≤ sizeLine; decide, fun X nX => ?_⟩⟩
    have s9 := same_new (o := .lst [.ref PO, .ref PR]) nX
    have eX' := upd_same (H := H8) (a := X) (o := .lst [.ref PO, .ref PR])
    generalize upd H8 X (.lst [.ref PO, .ref PR]) = H9 at s9 eX' ⊢
    have s69 := (s7.trans s8).trans s9
    have d9 := d6.same s69
    have eS9 := s69 _ _ eS
    have nXd : X ≠ d := nd_of ((d6.same s7).same s8) nX
    have nPOd : PO ≠ d := nd_of d6 nPO
    have nPRd : PR ≠ d := nd_of (d6.same s7) nPR
    have nasd : ∀ b ∈ as2, b ≠ d := fun b hb => nd_of (d6.same s7) (nas b hb).1
    have nXS : X ≠ S := fun z => by rw [z, s8 _ _ (s7 _ _ eS)] at nX; cases nX
    have nPOS : PO ≠ S := fun z => by rw [z, eS] at nPO; cases nPO
    have nPRS : PR ≠ S := fun z => by rw [z, s7 _ _ eS] at nPR; cases nPR
    have nasS : ∀ b ∈ as2, b ≠ S := fun b hb z => by have := (nas b hb).1; rw [z, s7 _ _ eS] at this; cases this
    have ho9 := s69 _ _ ho6
    have hL9 := hL6.same s69
    have ePO9 := s9 _ _ (s8 _ _ ePO)
    have hL8' := hL8.same s9
    have nSoa : oa ≠ S := fun z => by rw [z, nS] at ho; cases ho
    have nSr : r ≠ S := fun z => by have := hL.1; rw [z, nS] at this; cases this
    have nSas : ∀ a ∈ as, a ≠ S := fun a ha z => by
      obtain ⟨j, hj⟩ := List.mem_iff_getElem?.mp ha
      obtain ⟨_, _, _, h2, _⟩ := hL.2.g j a hj
      rw [z, nS] at h2
      cases h2
    refine ⟨_, rfl, d, 6, rfl, d9, by decide, fun z us z0 z1 => ?_⟩
    have k10 : KLs [d, S] H9 (upd H9 d (.lst (us.map V.int))) := fun b o nb hb => by rw [upd_ne (fun e => nb (by simp [e]))]; exact hb
    have d10 : Drw (upd H9 d (.lst (us.map V.int))) d := Drw.own
    have eS10 : (upd H9 d (.lst (us.map V.int))) S = some (.lst [.int I, .int O, .int L]) := by rw [upd_ne nSd]; exact eS9
    generalize upd H9 d (.lst (us.map V.int)) = H10 at k10 d10 eS10 ⊢
    refine ⟨fun σ H' => ∃ I2 O2 : Int, σ = [some (.ref sa), some (.ref d), some (.int I), some (.int O), some (.int L), some (.ref oa), some (.ref r), some (.ref S), some (.ref X), some (.int z), none, none, none, none, none, none, none, none, none, none] ∧ KLs [d, S] H9 H' ∧ Drw H' d ∧ H' S = some (.lst [.int I2, .int O2, .int L]) ∧ 1 ≤ I2 ∧ I2 ≤ 4 ∧ 1 ≤ O2 ∧ O2 ≤ 4 ∧ (3 ≤ z → I2 = I ∧ O2 = O), ?_, ?_⟩
    · refine ⟨_, rfl, rfl, _, rfl, ite_eq (fun y => ?_) (fun y => ⟨I, O, rfl, k10, d10, eS10, hI1, by omega, hO1, by omega, fun _ => ⟨rfl, rfl⟩⟩)⟩
      refine ⟨_, rfl, _, rfl, d, 2, rfl, d10, by decide, fun u us2 u0 u1 => ?_⟩
      have eS11 : (upd H10 d (.lst (us2.map V.int))) S = some (.lst [.int I, .int O, .int L]) := by rw [upd_ne nSd]; exact eS10
      have k11 : KLs [d, S] H9 (upd H10 d (.lst (us2.map V.int))) := fun b o nb hb => by rw [upd_ne (fun e => nb (by simp [e]))]; exact k10 b o nb hb
      have d11 : Drw (upd H10 d (.lst (us2.map V.int))) d := Drw.own
      generalize upd H10 d (.lst (us2.map V.int)) = H11 at eS11 k11 d11 ⊢
      have dS : ∀ o, Drw (upd H11 S o) d := fun o => by
        obtain ⟨o', y'⟩ := d11
        exact ⟨o', by rw [upd_ne nSd.symm]; exact y'⟩
      have kS : ∀ o, KLs [d, S] H9 (upd H11 S o) := fun o b o' nb hb => by rw [upd_ne (fun e => nb (by simp [e]))]; exact k11 b o' nb hb
      rcases (show u = 0 ∨ u = 1 by omega) with e | e
      · subst e
        exact ⟨S, _, 0, 0, rfl, rfl, eS11, rfl, 4, O, rfl, kS _, dS _, upd_same, by omega, by omega, hO1, by omega, fun h => by omega⟩
      · subst e
        exact ⟨S, _, 1, 1, rfl, rfl, eS11, rfl, I, 4, rfl, kS _, dS _, upd_same, hI1, by omega, by omega, by omega, fun h => by omega⟩
    clear k10 d10 eS10
    rintro σ HB ⟨I2, O2, rfl, kB, dB, eSB, i1, i2, o1, o2, hz3⟩
    refine ⟨fun σ H' => ∃ J2 : Int, σ = [some (.ref sa), some (.ref d), some (.int I), some (.int O), some (.int L), some (.ref oa), some (.ref r), some (.ref S), some (.ref X), some (.int z), none, none, none, none, none, none, none, none, none, none] ∧ KLs [d, S] H9 H' ∧ Drw H' d ∧ H' S = some (.lst [.int I2, .int O2, .int J2]) ∧ -3 ≤ J2 ∧ J2 ≤ 2 ∧ (3 ≤ z → J2 = L), ?_, ?_⟩
    · refine ⟨_, rfl, rfl, _, rfl, ite_eq (fun y => ?_) (fun y => ite_f rfl ⟨L, rfl, kB, dB, eSB, hL0, hL1, fun _ => rfl⟩)⟩
      refine ⟨_, rfl, _, rfl, _, _, rfl, rfl, _, rfl, ite2 (fun y2 => ?_) (fun _ => ⟨L, rfl, kB, dB, eSB, hL0, hL1, fun _ => rfl⟩)⟩
      have y2 := of_decide_eq_true y2
      have dS : ∀ o, Drw (upd HB S o) d := fun o => by
        obtain ⟨o', y'⟩ := dB
        exact ⟨o', by rw [upd_ne nSd.symm]; exact y'⟩
      have kS : ∀ o, KLs [d, S] H9 (upd HB S o) := fun o b o' nb hb => by rw [upd_ne (fun e => nb (by simp [e]))]; exact kB b o' nb hb
      exact ⟨_, rfl, _, _, rfl, rfl, _, rfl, S, _, 2, 2, rfl, rfl, eSB, rfl, L - 1, rfl, kS _, dS _, upd_same, by omega, by omega, fun h => by omega⟩
    clear kB dB eSB
    rintro σ HC ⟨J2, rfl, kC, dC, eSC, j1, j2, hz4⟩
    have hTS : ∀ b ∈ [d, S], ∃ ys, H9 b = some (.lst ys) := fun b hb => by
      simp only [List.mem_cons, List.not_mem_nil, or_false] at hb
      rcases hb with rfl | rfl
      · obtain ⟨o, y⟩ := d9
        exact ⟨_, y⟩
      · exact ⟨_, eS9⟩
    refine ⟨fun σ H' => ∃ (X2 oa2 r2 : Addr) (as3 : List Addr) (op2 : List Int) (c2 : List (List (Int × Int))) (v10 : Option V), σ = [some (.ref sa), some (.ref d), some (.int I), some (.int O), some (.int L), some (.ref oa), some (.ref r), some (.ref S), some (.ref X2), some (.int z), v10, none, none, none, none, none, none, none, none, none] ∧ KLs [d, S] H9 H' ∧ Drw H' d ∧ H' S = some (.lst [.int I2, .int O2, .int J2]) ∧ H' X2 = some (.lst [.ref oa2, .ref r2]) ∧ H' oa2 = some (.lst (op2.map V.int)) ∧ LPr H' r2 as3 c2 ∧ Vm I2 O2 J2 op2 c2 ∧ c2.length ≤ 4 ∧ (3 ≤ z → I2 = I ∧ O2 = O ∧ J2 = L ∧ X2 = X ∧ oa2 = PO ∧ r2 = PR ∧ as3 = as2 ∧ op2 = op ∧ c2 = c), ?_, ?_⟩
    · refine ⟨_, rfl, _, _, rfl, rfl, _, rfl, ite2 (fun y => ?_) (fun y => ?_)⟩
      · have y := of_decide_eq_true y
        refine ⟨_, rfl, _, rfl, S, _, _, .int I2, rfl, rfl, .of eSC, at0, _, rfl, S, _, _, .int O2, rfl, rfl, .of eSC, atI_nat (j := 1) rfl, _, rfl, S, _, _, .int J2, rfl, rfl, .of eSC, atI_nat (j := 2) rfl, d, I2, O2, J2, 4, rfl, dC, by omega, by omega, by omega, by omega, by omega, by decide, by decide, fun HD t oa2 r2 as3 op2 c2 kD dD et ho2 hL2 m1 m2 m3 hV2 hc2 => ?_⟩
        have kD' : KLs [d, S] H9 HD := fun b o nb hb => kD b o (fun e => nb (by simp [e])) (kC b o nb hb)
        have eSD : HD S = some (.lst [.int I2, .int O2, .int J2]) := kD _ _ nSd eSC
        refine ⟨_, rfl, t, _, _, .ref oa2, rfl, rfl, .of et, at0, _, rfl, t, _, _, .ref r2, rfl, rfl, .of et, atI_nat (j := 1) rfl, by show 2 ≤ sizeLine; decide, fun X2 nX2 => ?_⟩
        have sX := same_new (o := .lst [.ref oa2, .ref r2]) nX2
        exact ⟨X2, oa2, r2, as3, op2, c2, _, rfl, fun b o nb hb => sX _ _ (kD' b o nb hb), dD.same sX, sX _ _ eSD, upd_same, sX _ _ ho2, hL2.same sX, hV2, hc2, fun h => by omega⟩
      · have y : ¬ z < 3 := fun h => y (decide_eq_true h)
        obtain ⟨rfl, rfl⟩ := hz3 (by omega)
        obtain rfl := hz4 (by omega)
        exact ⟨X, PO, PR, as2, op, c, _, rfl, kC, dC, eSC, kC _ _ (not2 nXd nXS) eX', kC _ _ (not2 nPOd nPOS) ePO9, lpr_kl kC hTS hL8' (not2 nPRd nPRS) (fun a ha => not2 (nasd a ha) (nasS a ha)), hV, hc4, fun _ => ⟨rfl, rfl, rfl, rfl, rfl, rfl, rfl, rfl, rfl⟩⟩
    clear kC dC eSC
    rintro σ HE ⟨X2, oa2, r2, as3, op2, c2, v10, rfl, kE, dE, eSE, eXE, eoE, hLE, hVE, hcE, hz5⟩
    have hoE := kE _ _ (not2 g1.symm nSoa) ho9
    have hLrE := lpr_kl kE hTS hL9 (not2 g2.symm nSr) (fun a ha => not2 (g3 a ha) (nSas a ha))
    refine ⟨fun σ H' => ∃ (X2 oa2 r2 : Addr) (as3 : List Addr) (op2 : List Int) (c2 : List (List (Int × Int))) (v10 v11 v12 : Option V), σ = [some (.ref sa), some (.ref d), some (.int I), some (.int O), some (.int L), some (.ref oa), some (.ref r), some (.ref S), some (.ref X2), some (.int z), v10, v11, v12, none, none, none, none, none, none, none] ∧ Drw H' d ∧ H' oa = some (.lst (op.map V.int)) ∧ LPr H' r as c ∧ H' S = some (.lst [.int I2, .int O2, .int J2]) ∧ H' X2 = some (.lst [.ref oa2, .ref r2]) ∧ H' oa2 = some (.lst (op2.map V.int)) ∧ LPr H' r2 as3 c2 ∧ Vm I2 O2 J2 op2 c2 ∧ c2.length ≤ 4 ∧ (3 < z → I2 = I ∧ O2 = O ∧ J2 = L ∧ X2 = X ∧ oa2 = PO ∧ op2 = op), ?_, ?_⟩
    · refine ⟨_, rfl, rfl, _, rfl, ite_eq (fun y => ?_) (fun y => ⟨X2, oa2, r2, as3, op2, c2, _, _, _, rfl, dE, hoE, hLrE, eSE, eXE, eoE, hLE, hVE, hcE, fun h => ?_⟩)⟩
      · obtain ⟨rfl, rfl, rfl, rfl, rfl, rfl, rfl, rfl, rfl⟩ := hz5 (by omega)
        refine ⟨_, rfl, X2, _, _, .ref r2, rfl, rfl, .of eXE, atI_nat (j := 1) rfl, _, rfl, _, rfl, r, _, rfl, .inl (.of hLrE.1), d, _, rfl, dE, ?_, fun u us2 u0 u1 => ?_⟩
        · rw [List.length_map, hLrE.2.len]
          omega
        have hal : (as.map V.ref).length = c2.length := by rw [List.length_map, hLrE.2.len]
        have hLl : as3.length = c2.length := hLE.2.len
        rw [hal] at u1
        have kd : ∀ (H0 : Hp) (o : HO) (b : Addr) (o' : HO), b ≠ d → H0 b = some o' → (upd H0 d o) b = some o' := fun H0 o b o' n h => by rw [upd_ne n]; exact h
        have kE1 : KLs [d, S] H9 (upd HE d (.lst (us2.map V.int))) := fun b o nb hb => kd _ _ _ _ (fun e => nb (by simp [e])) (kE b o nb hb)
        have eS1 : (upd HE d (.lst (us2.map V.int))) S = some (.lst [.int I2, .int O2, .int J2]) := kd _ _ _ _ nSd eSE
        have dE1 : Drw (upd HE d (.lst (us2.map V.int))) d := Drw.own
        generalize upd HE d (.lst (us2.map V.int)) = HF at kE1 eS1 dE1 ⊢
        clear kE dE eSE eXE eoE hLE hoE hLrE
        have hL1 := lpr_kl kE1 hTS hL8' (not2 nPRd nPRS) (fun a ha => not2 (nasd a ha) (nasS a ha))
        have hLr1 := lpr_kl kE1 hTS hL9 (not2 g2.symm nSr) (fun a ha => not2 (g3 a ha) (nSas a ha))
        have huN : u.toNat < as3.length := by rw [hLl]; omega
        obtain ⟨a0, ha0⟩ : ∃ a0, as3[u.toNat]? = some a0 := ⟨_, List.getElem?_eq_getElem huN⟩
        have ha0m := List.mem_of_getElem? ha0
        refine .inl ⟨r2, _, _, .ref a0, rfl, rfl, .of hL1.1, atI_int u0 (by rw [List.getElem?_map, ha0]; rfl), ?_⟩
        refine ⟨_, rfl, _, rfl, r, _, rfl, .inl (.of hLr1.1), d, _, rfl, dE1, by rw [hal]; omega, fun t us3 t0 t1 => ?_⟩
        rw [hal] at t1
        refine ⟨_, rfl, _, rfl, d, O2, rfl, Drw.own, by omega, fun l us4 l0 l1 => ⟨by show 2 ≤ sizeLine; decide, fun p hp => ?_⟩⟩
        have kE2 : KLs [d, S] H9 (upd (upd (upd HF d (.lst (us3.map V.int))) d (.lst (us4.map V.int))) p (.tup [.int t, .int l])) := fun b o nb hb => same_new hp _ _ (kd _ _ _ _ (fun e => nb (by simp [e])) (kd _ _ _ _ (fun e => nb (by simp [e])) (kE1 b o nb hb)))
        have eS2 : (upd (upd (upd HF d (.lst (us3.map V.int))) d (.lst (us4.map V.int))) p (.tup [.int t, .int l])) S = _ := same_new hp _ _ (kd _ _ _ _ nSd (kd _ _ _ _ nSd eS1))
        have dE2 : Drw (upd (upd (upd HF d (.lst (us3.map V.int))) d (.lst (us4.map V.int))) p (.tup [.int t, .int l])) d := ⟨_, same_new hp _ _ upd_same⟩
        have ep2 : (upd (upd (upd HF d (.lst (us3.map V.int))) d (.lst (us4.map V.int))) p (.tup [.int t, .int l])) p = some (.tup [.int t, .int l]) := upd_same
        have npd : p ≠ d := fun z => by rw [z, upd_same] at hp; cases hp
        generalize upd (upd (upd HF d (.lst (us3.map V.int))) d (.lst (us4.map V.int))) p (.tup [.int t, .int l]) = HG at kE2 eS2 dE2 ep2 ⊢
        clear hp kE1 eS1 dE1 hL1 hLr1
        refine ⟨_, rfl, _, rfl, _, rfl, d, I2, rfl, dE2, by omega, fun x us5 x0 x1 => ?_⟩
        have kE3 : KLs [d, S] H9 (upd HG d (.lst (us5.map V.int))) := fun b o nb hb => kd _ _ _ _ (fun e => nb (by simp [e])) (kE2 b o nb hb)
        have eS3 : (upd HG d (.lst (us5.map V.int))) S = _ := kd _ _ _ _ nSd eS2
        have dE3 : Drw (upd HG d (.lst (us5.map V.int))) d := Drw.own
        have ep3 : (upd HG d (.lst (us5.map V.int))) p = _ := kd _ _ _ _ npd ep2
        generalize upd HG d (.lst (us5.map V.int)) = HH at kE3 eS3 dE3 ep3 ⊢
        clear kE2 eS2 dE2 ep2
        have hL3 := lpr_kl kE3 hTS hL8' (not2 nPRd nPRS) (fun a ha => not2 (nasd a ha) (nasS a ha))
        obtain ⟨bs, row, hrow, hra, hbl, _⟩ := hL3.2.g u.toNat a0 ha0
        have hrl := hV.w row (List.mem_of_getElem? hrow)
        obtain ⟨cc, RC, hcl, hcr⟩ := rp_set (j := x.toNat) hL3.2 hra ep3 (by omega)
        refine ⟨a0, _, x, x.toNat, rfl, rfl, hra, ?_, ?_⟩
        · have h := ixN_at (n := (bs.map V.ref).length) (j := x.toNat) (by rw [List.length_map]; omega)
          rwa [Int.toNat_of_nonneg x0] at h
        have VC : Vm I2 O2 J2 op2 cc := by
          refine ⟨hV.i1, hV.o1, hV.l0, hV.l1, hV.op_len, fun e => by rw [e] at hcl; simp at hcl; omega, fun q hq => ?_, fun q hq p' hp' => ?_, hV.op_in, fun q hq p' hp' => ?_⟩
          · obtain ⟨q0, h1, h2, _⟩ := hcr q hq
            rw [h2]
            exact hV.w q0 h1
          · obtain ⟨q0, h1, _, h3⟩ := hcr q hq
            rcases h3 p' hp' with h | h
            · rw [hcl]; exact hV.st q0 h1 p' h
            · rw [h, hcl]; exact ⟨t0, t1⟩
          · obtain ⟨q0, h1, _, h3⟩ := hcr q hq
            rcases h3 p' hp' with h | h
            · exact hV.em q0 h1 p' h
            · rw [h]; exact ⟨l0, l1⟩
        have n0 := nas a0 ha0m
        have neq : ∀ {b : Addr} {o : HO}, H7 b = some o → b ≠ a0 := fun h e => by rw [e, n0.1] at h; cases h
        have nX0 : X2 ≠ a0 := fun e => by
          obtain ⟨_, _, _, h, _⟩ := hL8.2.g u.toNat a0 ha0
          rw [← e, nX] at h
          cases h
        have kI : ∀ o, KLs [d, S, a0] H9 (upd HH a0 o) := fun o b o' nb hb => by
          rw [upd_ne (fun e => nb (by simp [e]))]
          exact kE3 b o' (fun h => nb (by
            simp only [List.mem_cons, List.not_mem_nil, or_false] at h ⊢
            rcases h with h | h
            · exact .inl h
            · exact .inr (.inl h))) hb
        have not3 : ∀ {b : Addr}, b ≠ d → b ≠ S → b ≠ a0 → b ∉ [d, S, a0] := fun h1 h2 h3 => by simp [h1, h2, h3]
        have a0d := nasd a0 ha0m
        have a0S := nasS a0 ha0m
        have hT3 : ∀ b ∈ [d, S, a0], ∃ ys, H9 b = some (.lst ys) := fun b hb => by
          simp only [List.mem_cons, List.not_mem_nil, or_false] at hb
          rcases hb with h | h | h
          · exact hTS b (by simp [h])
          · exact hTS b (by simp [h])
          · obtain ⟨_, _, _, h2, _⟩ := hL8'.2.g u.toNat a0 ha0
            rw [h]
            exact ⟨_, h2⟩
        have hoI := kI (.lst ((bs.map V.ref).set x.toNat (.ref p))) _ _ (not3 g1.symm nSoa (neq (s7 _ _ ho6))) ho9
        have hLrI := lpr_kl (kI (.lst ((bs.map V.ref).set x.toNat (.ref p)))) hT3 hL9 (not3 g2.symm nSr (neq (s7 _ _ hL6.1))) (fun a ha => not3 (g3 a ha) (nSas a ha) (by
          obtain ⟨j', hj'⟩ := List.mem_iff_getElem?.mp ha
          obtain ⟨_, _, _, h2, _⟩ := hL6.2.g j' a hj'
          exact neq (s7 _ _ h2)))
        have eXI := kI (.lst ((bs.map V.ref).set x.toNat (.ref p))) _ _ (not3 nXd nXS nX0) eX'
        have ePI := kI (.lst ((bs.map V.ref).set x.toNat (.ref p))) _ _ (not3 nPOd nPOS (neq ePO)) ePO9
        have er2I := kI (.lst ((bs.map V.ref).set x.toNat (.ref p))) _ _ (not3 nPRd nPRS n0.2.symm) hL8'.1
        have eSI : (upd HH a0 (.lst ((bs.map V.ref).set x.toNat (.ref p)))) S = some (.lst [.int I2, .int O2, .int J2]) := by rw [upd_ne a0S.symm]; exact eS3
        have dI : Drw (upd HH a0 (.lst ((bs.map V.ref).set x.toNat (.ref p)))) d := by
          obtain ⟨o', y'⟩ := dE3
          exact ⟨o', by rw [upd_ne a0d.symm]; exact y'⟩
        generalize upd HH a0 (.lst ((bs.map V.ref).set x.toNat (.ref p))) = HI at RC hoI hLrI eXI ePI er2I eSI dI ⊢
        clear kI kE3 eS3 dE3 ep3 hL3 hra
        have hcl4 : cc.length ≤ 4 := by omega
        refine ⟨_, rfl, _, _, rfl, rfl, _, rfl, ite2 (fun yl => ?_) (fun _ => ⟨X2, oa2, r2, as3, op2, cc, _, _, _, rfl, dI, hoI, hLrI, eSI, eXI, ePI, ⟨er2I, RC⟩, VC, hcl4, fun h => by omega⟩)⟩
        have yl := of_decide_eq_true yl
        refine ⟨_, rfl, d, 4, rfl, dI, by decide, fun e us6 e0 e1 => ⟨rfl, _, rfl, ?_⟩⟩
        have kJ : KLs [d] HI (upd HI d (.lst (us6.map V.int))) := fun b o nb hb => kd _ _ _ _ (fun e => nb (by simp [e])) hb
        have dJ : Drw (upd HI d (.lst (us6.map V.int))) d := Drw.own
        generalize upd HI d (.lst (us6.map V.int)) = HJ at kJ dJ ⊢
        have hTd : ∀ b ∈ [d], ∃ ys, HI b = some (.lst ys) := fun b hb => by
          rw [List.mem_singleton.mp hb]
          obtain ⟨o, y⟩ := dI
          exact ⟨_, y⟩
        have not1 : ∀ {b : Addr}, b ≠ d → b ∉ [d] := fun h => by simp [h]
        have hoJ := kJ _ _ (not1 g1.symm) hoI
        have hLrJ := lpr_kl kJ hTd hLrI (not1 g2.symm) (fun a ha => not1 (g3 a ha))
        have eXJ := kJ _ _ (not1 nXd) eXI
        have ePJ := kJ _ _ (not1 nPOd) ePI
        have hL2J : LPr HJ r2 as3 cc := lpr_kl kJ hTd ⟨er2I, RC⟩ (not1 nPRd) (fun a ha => not1 (nasd a ha))
        have eSJ := kJ _ _ (not1 nSd) eSI
        clear hoI hLrI eXI ePI er2I RC eSI dI kJ hTd
        refine ite_eq (fun ye => ?_) (fun _ => ⟨X2, oa2, r2, as3, op2, cc, _, _, _, rfl, dJ, hoJ, hLrJ, eSJ, eXJ, ePJ, hL2J, VC, hcl4, fun h => by omega⟩)
        have hol : (op2.map V.int).length = op2.length := List.length_map ..
        have hol2 := hV.op_len
        refine ⟨_, rfl, X2, _, _, .ref oa2, rfl, rfl, .of eXJ, at0, _, rfl, _, rfl, d, O2, rfl, dJ, by omega, fun v us7 v0 v1 => ?_⟩
        have kM0 : ∀ b o', b ≠ d → HJ b = some o' → (upd HJ d (.lst (us7.map V.int))) b = some o' := fun b o' n h => kd _ _ _ _ n h
        have dM0 : Drw (upd HJ d (.lst (us7.map V.int))) d := Drw.own
        generalize upd HJ d (.lst (us7.map V.int)) = HL at kM0 dM0 ⊢
        refine ⟨_, rfl, _, rfl, _, rfl, oa2, _, rfl, .inl (.of (kM0 _ _ nPOd ePJ)), d, _, rfl, dM0, by rw [hol]; omega, fun k us8 k0 k1 => ?_⟩
        rw [hol] at k1
        have kM1 : ∀ b o', b ≠ d → HJ b = some o' → (upd HL d (.lst (us8.map V.int))) b = some o' := fun b o' n h => kd _ _ _ _ n (kM0 b o' n h)
        have dM1 : Drw (upd HL d (.lst (us8.map V.int))) d := Drw.own
        generalize upd HL d (.lst (us8.map V.int)) = HM at kM1 dM1 ⊢
        have nO1 : oa ≠ oa2 := fun e => by rw [← e, ho6] at nPO; cases nPO
        have nO2 : r ≠ oa2 := fun e => by rw [← e, hL6.1] at nPO; cases nPO
        have nO3 : ∀ a ∈ as, a ≠ oa2 := fun a ha e => by
          obtain ⟨j', hj'⟩ := List.mem_iff_getElem?.mp ha
          obtain ⟨_, _, _, h2, _⟩ := hL6.2.g j' a hj'
          rw [e, nPO] at h2
          cases h2
        have nO4 : X2 ≠ oa2 := fun e => by rw [e, s8 _ _ ePO] at nX; cases nX
        have nO5 : r2 ≠ oa2 := fun e => by rw [e, ePO] at nPR; cases nPR
        have nO6 : ∀ a ∈ as3, a ≠ oa2 := fun a ha e => by
          have := (nas a ha).1
          rw [e, ePO] at this
          cases this
        have hTd : ∀ b ∈ [d, oa2], ∃ ys, HJ b = some (.lst ys) := fun b hb => by
          simp only [List.mem_cons, List.not_mem_nil, or_false] at hb
          rcases hb with h | h
          · rw [h]
            obtain ⟨o, y⟩ := dJ
            exact ⟨_, y⟩
          · rw [h]
            exact ⟨_, ePJ⟩
        have kN : KLs [d, oa2] HJ (upd HM oa2 (.lst ((op2.map V.int).set k.toNat (V.int v)))) := fun b o nb hb => by
          rw [upd_ne (fun e => nb (by simp [e]))]
          exact kM1 _ _ (fun e => nb (by simp [e])) hb
        refine ⟨oa2, _, k, k.toNat, rfl, rfl, kM1 _ _ nPOd ePJ, ?_, X2, oa2, r2, as3, op2.set k.toNat v, cc, _, _, _, rfl, ?_, kN _ _ (not2 g1.symm nO1) hoJ, lpr_kl kN hTd hLrJ (not2 g2.symm nO2) (fun a ha => not2 (g3 a ha) (nO3 a ha)), kN _ _ (not2 nSd nPOS.symm) eSJ, kN _ _ (not2 nXd nO4) eXJ, ?_, lpr_kl kN hTd hL2J (not2 nPRd nO5) (fun a ha => not2 (nasd a ha) (nO6 a ha)), ?_, hcl4, fun h => by omega⟩
        · have h := ixN_at (n := (op2.map V.int).length) (j := k.toNat) (by rw [hol]; omega)
          rwa [Int.toNat_of_nonneg k0] at h
        · obtain ⟨o', y'⟩ := dM1
          exact ⟨o', by rw [upd_ne nPOd.symm]; exact y'⟩
        · rw [upd_same, List.map_set]
        · refine ⟨VC.i1, VC.o1, VC.l0, VC.l1, by rw [List.length_set]; exact VC.op_len, VC.ne, VC.w, VC.st, fun q hq => ?_, VC.em⟩
          rcases List.mem_or_eq_of_mem_set hq with h | h
          · exact VC.op_in q h
          · rw [h]; exact ⟨v0, v1⟩
      · obtain ⟨a1, a2, a3, a4, a5, a6, a7, a8, a9⟩ := hz5 (by omega)
        exact ⟨a1, a2, a3, a4, a5, a8⟩
    clear kE dE eSE eXE eoE hLE hoE hLrE hz5
    rintro σ HP ⟨X3, oa3, r3, as4, op3, c3, w10, w11, w12, rfl, dP, hoP, hLrP, eSP, eXP, eoP, hLP, hVP, hcP, hz6⟩
    refine ⟨fun σ H' => ∃ (X4 oa4 r4 : Addr) (as5 : List Addr) (op4 : List Int) (c4 : List (List (Int × Int))) (w10 w11 w12 w13 w14 : Option V), σ = [some (.ref sa), some (.ref d), some (.int I), some (.int O), some (.int L), some (.ref oa), some (.ref r), some (.ref S), some (.ref X4), some (.int z), w10, w11, w12, w13, w14, none, none, none, none, none] ∧ H' oa = some (.lst (op.map V.int)) ∧ LPr H' r as c ∧ H' S = some (.lst [.int I2, .int O2, .int J2]) ∧ H' X4 = some (.lst [.ref oa4, .ref r4]) ∧ H' oa4 = some (.lst (op4.map V.int)) ∧ LPr H' r4 as5 c4 ∧ Vm I2 O2 J2 op4 c4 ∧ c4.length ≤ 8, ?_, ?_⟩
    · refine ⟨_, rfl, _, _, rfl, rfl, _, rfl, ite2 (fun y => ?_) (fun _ => ⟨X3, oa3, r3, as4, op3, c3, _, _, _, _, _, rfl, hoP, hLrP, eSP, eXP, eoP, hLP, hVP, by omega⟩)⟩
      have y := of_decide_eq_true y
      obtain ⟨rfl, rfl, rfl, rfl, rfl, rfl⟩ := hz6 (by omega)
      refine ⟨Nat.zero_le _, fun DB hDB => ?_⟩
      have s0 := same_new (o := .lst []) hDB
      have eD0 := upd_same (H := HP) (a := DB) (o := .lst [])
      have nDd : DB ≠ d := nd_of dP hDB
      have nDr : r ≠ DB := fun e => by have := hLrP.1; rw [e, hDB] at this; cases this
      have nDa : ∀ a ∈ as, a ≠ DB := fun a ha e => by
        obtain ⟨j', hj'⟩ := List.mem_iff_getElem?.mp ha
        obtain ⟨_, _, _, h2, _⟩ := hLrP.2.g j' a hj'
        rw [e, hDB] at h2
        cases h2
      have nDo : oa ≠ DB := fun e => by rw [e, hDB] at hoP; cases hoP
      have nDS : S ≠ DB := fun e => by rw [e, hDB] at eSP; cases eSP
      have nDX : X3 ≠ DB := fun e => by rw [e, hDB] at eXP; cases eXP
      have nDp : oa3 ≠ DB := fun e => by rw [e, hDB] at eoP; cases eoP
      have d0 := dP.same s0
      have ho0 := s0 _ _ hoP
      have hLr0 := hLrP.same s0
      have eS0 := s0 _ _ eSP
      have eX0 := s0 _ _ eXP
      have eo0 := s0 _ _ eoP
      generalize upd HP DB (.lst []) = H0 at eD0 d0 ho0 hLr0 eS0 eX0 eo0 ⊢
      clear s0 hDB dP hoP hLrP eSP eXP eoP hLP
      have hT0 : ∀ b ∈ [d, DB], ∃ ys, H0 b = some (.lst ys) := fun b hb => by
        simp only [List.mem_cons, List.not_mem_nil, or_false] at hb
        rcases hb with h | h
        · rw [h]
          obtain ⟨o, y⟩ := d0
          exact ⟨_, y⟩
        · rw [h]; exact ⟨_, eD0⟩
      have nA2 : ∀ {a : Addr}, H0 a = none → a ≠ d ∧ a ≠ DB ∧ a ≠ X3 := fun {a} h => ⟨nd_of d0 h, (fun e => by rw [e, eD0] at h; cases h), (fun e => by rw [e, eX0] at h; cases h)⟩
      have hnr : ∀ a ∈ as, a ∉ [d, DB] := fun a ha => not2 (g3 a ha) (nDa a ha)
      have hal : (as.map V.ref).length = c.length := by rw [List.length_map, hLr0.2.len]
      refine ⟨2, rfl, by decide, by decide, for_range (lo := 0) (n := 2) (fun i σ' H' => ∃ (aq : List Addr) (cq : List (List (Int × Int))) (w10 w11 w12 w14 : Option V), σ' = [some (.ref sa), some (.ref d), some (.int I2), some (.int O2), some (.int J2), some (.ref oa), some (.ref r), some (.ref S), some (.ref X3), some (.int z), w10, w11, w12, some (.ref DB), w14, none, none, none, none, none] ∧ KLs [d, DB] H0 H' ∧ Drw H' d ∧ H' DB = some (.lst (aq.map V.ref)) ∧ RP .lst H' aq cq ∧ cq.length = i * c.length ∧ (∀ q ∈ cq, (q.length : Int) = I2 ∧ ∀ p ∈ q, (0 ≤ p.1 ∧ p.1 < 2 * (c.length : Int)) ∧ 0 ≤ p.2 ∧ p.2 < O2) ∧ ∀ a ∈ aq, H0 a = none)
        ⟨[], [], _, _, _, _, rfl, fun b o _ h => h, d0, eD0, My.RP.nil, by simp, by simp, by simp⟩ ?_ ?_⟩
      · rintro i σ' HA hi ⟨aq, cq, w10, w11, w12, w14, rfl, kA, dA, eA, RA, hlA, hrA, hnA⟩
        have hLrA := lpr_kl kA hT0 hLr0 (not2 g2.symm nDr) hnr
        refine ⟨_, rfl, r, rfl, ⟨_, .of hLrA.1⟩, for_list (K := K) (a := r) (xs := as.map V.ref) (fun j σ' H' => ∃ (aq : List Addr) (cq : List (List (Int × Int))) (w11 : Option V), σ' = [some (.ref sa), some (.ref d), some (.int I2), some (.int O2), some (.int J2), some (.ref oa), some (.ref r), some (.ref S), some (.ref X3), some (.int z), w10, w11, w12, some (.ref DB), some (.int (0 + (i : Int))), none, none, none, none, none] ∧ KLs [d, DB] H0 H' ∧ Drw H' d ∧ H' DB = some (.lst (aq.map V.ref)) ∧ RP .lst H' aq cq ∧ cq.length = i * c.length + j ∧ (∀ q ∈ cq, (q.length : Int) = I2 ∧ ∀ p ∈ q, (0 ≤ p.1 ∧ p.1 < 2 * (c.length : Int)) ∧ 0 ≤ p.2 ∧ p.2 < O2) ∧ ∀ a ∈ aq, H0 a = none)
          ⟨aq, cq, _, rfl, kA, dA, eA, RA, hlA, hrA, hnA⟩ (fun j σ' H' _ ⟨_, _, _, _, z, _⟩ => .of (lpr_kl z hT0 hLr0 (not2 g2.symm nDr) hnr).1) ?_ ?_⟩
        · clear kA dA eA RA hlA hrA hnA hLrA
          rintro j y σ' HB' hj ⟨aq, cq, w11, rfl, kA, dA, eA, RA, hlA, hrA, hnA⟩
          obtain ⟨ra, hra, rfl⟩ := refs_get hj
          have hLrA := lpr_kl kA hT0 hLr0 (not2 g2.symm nDr) hnr
          obtain ⟨bs, row, hrow, hrae, hbl, hR⟩ := hLrA.2.g j ra hra
          have hmem := List.mem_of_getElem? hrow
          have hjl := (List.getElem?_eq_some_iff.mp hrow).1
          refine ⟨_, rfl, .inl ⟨rfl, _, .of eA⟩, _, rfl, ra, rfl, ⟨_, .of hrae⟩, fun D hD => lc_list (K := K) (a := ra) (xs := bs.map V.ref) (fun k H4 => ∃ (es : List Addr) (rw' : List (Int × Int)), KLs [d] HB' H4 ∧ Drw H4 d ∧ H4 D = some (.lst (es.map V.ref)) ∧ es.length = k ∧ rw'.length = k ∧ (∀ p ∈ rw', (0 ≤ p.1 ∧ p.1 < 2 * (c.length : Int)) ∧ 0 ≤ p.2 ∧ p.2 < O2) ∧ ∀ (m : Nat) (e : Addr), es[m]? = some e → ∃ t l, rw'[m]? = some (t, l) ∧ H4 e = some (.tup [.int t, .int l]))
            ⟨[], [], fun b o _ h => same_new hD _ _ h, dA.same (same_new hD), upd_same, rfl, rfl, by simp, fun m e h => by cases h⟩ (fun k H' _ ⟨_, _, z, _⟩ => .of (z _ _ (by simp [g3 ra (List.mem_of_getElem? hra)]) hrae)) ?_ ?_⟩
          · rintro k y H4 hk ⟨es, rw', k4, d4, e4, el, rl, hrw, hes⟩
            obtain ⟨b, hb, rfl⟩ := refs_get hk
            obtain ⟨t, l, hp, hbe⟩ := hR k b hb
            have hkl := (List.getElem?_eq_some_iff.mp hp).1
            have hst := hV.st row hmem _ (List.mem_of_getElem? hp)
            have hem := hV.em row hmem _ (List.mem_of_getElem? hp)
            have nbd : ∀ {b' : Addr} {o : HO}, H4 b' = some o → (∀ ys, o ≠ .lst ys) → b' ≠ d := fun h n e => by
              obtain ⟨o', y'⟩ := d4
              rw [e, y'] at h
              exact n _ (Option.some.inj h).symm
            have hb4 := k4 _ _ (by simp [dA.ne_tup hbe]) hbe
            have hr4 := k4 _ _ (by simp [g2.symm]) hLrA.1
            refine ⟨rfl, _, rfl, b, _, _, .int t, rfl, rfl, .of hb4, at0, _, rfl, r, _, rfl, .inl (.of hr4), _, rfl, d, 2, rfl, d4, by decide, fun u us u0 u1 => ⟨_, _, rfl, rfl, ?_, _, _, rfl, rfl, ?_⟩⟩
            · rw [hal]
              exact .inl ⟨by omega, by omega⟩
            rw [hal]
            have hDd : D ≠ d := nd_of dA hD
            have h5 : ∀ b' o, b' ≠ d → H4 b' = some o → (upd H4 d (.lst (us.map V.int))) b' = some o := fun b' o n h => by rw [upd_ne n]; exact h
            have d5 : Drw (upd H4 d (.lst (us.map V.int))) d := Drw.own
            generalize upd H4 d (.lst (us.map V.int)) = H5' at h5 d5 ⊢
            have e5 := h5 _ _ hDd e4
            refine ⟨_, rfl, b, _, _, .int l, rfl, rfl, .of (h5 _ _ (d4.ne_tup hb4) hb4), atI_nat (j := 1) rfl, by show 2 ≤ sizeLine; decide, fun p' hp' => ?_⟩
            have s6' := same_new (o := .tup [.int (t + (c.length : Int) * u), .int l]) hp'
            have ep' := upd_same (H := H5') (a := p') (o := .tup [.int (t + (c.length : Int) * u), .int l])
            have d6' := d5.same s6'
            have e6' := s6' _ _ e5
            show ∃ acc, (upd H5' p' (.tup [.int (t + (c.length : Int) * u), .int l])) D = some (.lst acc) ∧ _
            generalize upd H5' p' (.tup [.int (t + (c.length : Int) * u), .int l]) = H6' at s6' ep' d6' e6' ⊢
            have hu01 : u = 0 ∨ u = 1 := by omega
            have hbnd : 0 ≤ t + (c.length : Int) * u ∧ t + (c.length : Int) * u < 2 * (c.length : Int) := by
              rcases hu01 with e | e <;> rw [e] <;> omega
            refine ⟨_, e6', by rw [List.length_map]; exact Nat.lt_of_le_of_lt (show es.length ≤ 1000 by have := hrw; have := hV.w row hmem; omega) (by decide), es ++ [p'], rw' ++ [(t + (c.length : Int) * u, l)], fun b' o nb hb' => ?_, ?_, by rw [upd_same, List.map_append]; rfl, by rw [List.length_append, el]; rfl, by rw [List.length_append, rl]; rfl, fun q hq => ?_, fun m e he => ?_⟩
            · rw [upd_ne (ne_of_none hb' hD)]
              exact s6' _ _ (h5 _ _ (fun z => nb (by simp [z])) (k4 _ _ nb hb'))
            · obtain ⟨o', y'⟩ := d6'
              exact ⟨o', by rw [upd_ne hDd.symm]; exact y'⟩
            · rcases List.mem_append.mp hq with h | h
              · exact hrw q h
              · rw [List.mem_singleton.mp h]; exact ⟨hbnd, hem⟩
            · have tu := tup_upd (o := .lst (es.map V.ref ++ [.ref p'])) e6'
              rcases snoc_get he with ⟨h0, h1⟩ | ⟨h1, h2⟩
              · obtain ⟨t', l', g1', g2'⟩ := hes m e h1
                exact ⟨t', l', by rw [List.getElem?_append_left (by omega)]; exact g1', tu _ _ (s6' _ _ (h5 _ _ (d4.ne_tup g2') g2'))⟩
              · subst h2
                exact ⟨_, _, by rw [List.getElem?_append_right (by omega), show m - rw'.length = 0 by omega]; rfl, tu _ _ ep'⟩
          · rintro H4 ⟨es, rw', k4, d4, e4, el, rl, hrw, hes⟩
            have eA4 := k4 _ _ (by simp [nDd]) eA
            have nDB : D ≠ DB := fun z => by rw [z, eA] at hD; cases hD
            have hDd : D ≠ d := nd_of dA hD
            have hel : es.length = row.length := by rw [el, List.length_map, hbl]
            have tu := tup_upd (o := .lst (aq.map V.ref ++ [.ref D])) eA4
            have haql : aq.length ≤ 1000 := by
              rw [RA.len, hlA]
              have : i * c.length ≤ 2 * 4 := Nat.mul_le_mul (by omega) hc4
              omega
            refine ⟨DB, _, _, rfl, rfl, eA4, by rw [List.length_map]; exact Nat.lt_of_le_of_lt haql (by decide), aq ++ [D], cq ++ [rw'], _, rfl, fun b o nb hb => ?_, ?_, by rw [upd_same, List.map_append]; rfl, ?_, by rw [List.length_append, hlA]; rfl, fun q hq => ?_, fun a ha => ?_⟩
            · rw [upd_ne (fun e => nb (by simp [e]))]
              exact k4 _ _ (fun e => nb (by simp [List.mem_singleton.mp e])) (kA _ _ nb hb)
            · obtain ⟨o', y'⟩ := d4
              exact ⟨o', by rw [upd_ne nDd.symm]; exact y'⟩
            · refine My.RP.snoc (My.RP.keep RA (fun a ha o h => by rw [upd_ne (nA2 (hnA a ha)).2.1]; exact k4 _ _ (by simp [(nA2 (hnA a ha)).1]) h) (fun b xs hb => tu _ _ (k4 _ _ (by simp [dA.ne_tup hb]) hb))) (bs := es) (by rw [upd_ne nDB]; exact e4) (by rw [el, rl]) fun m b hb => ?_
              obtain ⟨t', l', g1', g2'⟩ := hes m b hb
              exact ⟨t', l', g1', tu _ _ g2'⟩
            · rcases List.mem_append.mp hq with h | h
              · exact hrA q h
              · rw [List.mem_singleton.mp h]
                exact ⟨by rw [rl, ← el, hel]; exact hV.w row hmem, hrw⟩
            · rcases List.mem_append.mp ha with h | h
              · exact hnA a h
              · rw [List.mem_singleton.mp h]
                cases e : H0 D with
                | none => rfl
                | some o =>
                  rw [kA _ _ (not2 hDd nDB) e] at hD
                  cases hD
        · rintro σ' HA' ⟨aq, cq, w11, rfl, kA, dA, eA, RA, hlA, hrA, hnA⟩
          rw [hal] at hlA
          exact ⟨aq, cq, _, _, _, _, rfl, kA, dA, eA, RA, by rw [hlA, Nat.succ_mul], hrA, hnA⟩
      · rintro σ' HA ⟨aq, cq, w10, w11, w12, w14, rfl, kA, dA, eA, RA, hlA, hrA, hnA⟩
        have eX1 := kA _ _ (not2 nXd nDX) eX0
        have eo1 := kA _ _ (not2 nPOd nDp) eo0
        have ho1 := kA _ _ (not2 g1.symm nDo) ho0
        have eS1 := kA _ _ (not2 nSd nDS) eS0
        have hLr1 := lpr_kl kA hT0 hLr0 (not2 g2.symm nDr) hnr
        have nXo : X3 ≠ oa := fun e => by rw [e, s8 _ _ (s7 _ _ ho6)] at nX; cases nX
        have nXr : X3 ≠ r := fun e => by rw [e, s8 _ _ (s7 _ _ hL6.1)] at nX; cases nX
        have nXp : X3 ≠ oa3 := fun e => by rw [e, s8 _ _ ePO] at nX; cases nX
        have nXa : ∀ a ∈ as, a ≠ X3 := fun a ha e => by
          obtain ⟨j', hj'⟩ := List.mem_iff_getElem?.mp ha
          obtain ⟨_, _, _, h2, _⟩ := hL6.2.g j' a hj'
          rw [e] at h2
          rw [s8 _ _ (s7 _ _ h2)] at nX
          cases nX
        have hcq : cq.length = 2 * c.length := hlA
        refine ⟨_, rfl, _, rfl, X3, _, 1, 1, rfl, rfl, eX1, rfl, X3, oa3, DB, aq, op3, cq, _, _, _, _, _, rfl, by rw [upd_ne nXo.symm]; exact ho1, ⟨by rw [upd_ne nXr.symm]; exact hLr1.1, My.RP.keep hLr1.2 (fun a ha o h => by rw [upd_ne (nXa a ha)]; exact h) (tup_upd eX1)⟩, by rw [upd_ne nXS.symm]; exact eS1, upd_same, by rw [upd_ne nXp.symm]; exact eo1, ⟨by rw [upd_ne nDX.symm]; exact eA, My.RP.keep RA (fun a ha o h => by rw [upd_ne (nA2 (hnA a ha)).2.2]; exact h) (tup_upd eX1)⟩, ⟨hV.i1, hV.o1, hV.l0, hV.l1, hV.op_len, fun e => by rw [e] at hcq; simp at hcq; omega, fun q hq => (hrA q hq).1, fun q hq p hp => ?_, hV.op_in, fun q hq p hp => ((hrA q hq).2 p hp).2⟩, by omega⟩
        have h1 := ((hrA q hq).2 p hp).1
        rw [hcq]
        exact ⟨h1.1, by omega⟩
    · clear hoP hLrP eSP eXP eoP hLP hVP hcP hz6 dP
      rintro σ HQ ⟨X4, oa4, r4, as5, op4, c4, w10, w11, w12, w13, w14, rfl, hoQ, hLrQ, eSQ, eXQ, eoQ, hLQ, hVQ, hcQ⟩
      refine ⟨_, rfl, _, rfl, _, rfl, _, rfl, oa, _, rfl, .inl (.of hoQ), fun P1 nP1 => ?_⟩
      have t1 := same_new (o := .lst (op.map V.int)) nP1
      have eP1 := upd_same (H := HQ) (a := P1) (o := .lst (op.map V.int))
      generalize upd HQ P1 (.lst (op.map V.int)) = HR at t1 eP1 ⊢
      refine ⟨_, rfl, r, as, c, rfl, hLrQ.same t1, by omega, fun HS R1 bs1 t2 hLS _ _ => ?_⟩
      refine fun m1 mdx1 hx1 hdx1 hne1 => ?_
      have t3 := sameM_fresh (C := C) hx1 hdx1
      refine ⟨m1, P1, R1, mdx1, I, O, L, op, bs1, c, rfl, upd_same, .inl (t3 _ _ (t2 _ _ eP1)), hLS.same t3, by omega, by omega, fun q hq => by have := hrw q hq; omega, fun k => absurd hV k, fun _ HT k8 A1 => ⟨rfl, ?_⟩⟩
      have tT := (t1.trans t2).trans (sameM_made hx1 hdx1 k8)
      clear t1 t2 t3 k8 hx1 hdx1 hne1 hLS eP1 nP1
      refine ⟨_, rfl, S, _, _, .int I2, rfl, rfl, .of (tT _ _ eSQ), at0, _, rfl, S, _, _, .int O2, rfl, rfl, .of (tT _ _ eSQ), atI_nat (j := 1) rfl, _, rfl, S, _, _, .int J2, rfl, rfl, .of (tT _ _ eSQ), atI_nat (j := 2) rfl, _, rfl, X4, _, _, .ref oa4, rfl, rfl, .of (tT _ _ eXQ), at0, oa4, _, rfl, .inl (.of (tT _ _ eoQ)), fun P2 nP2 => ?_⟩
      have t1 := same_new (o := .lst (op4.map V.int)) nP2
      have eP2 := upd_same (H := HT) (a := P2) (o := .lst (op4.map V.int))
      generalize upd HT P2 (.lst (op4.map V.int)) = HU at t1 eP2 ⊢
      have hop4 : op4.length ≤ 3 := by
        have h1 := hVQ.op_len
        have h2 := hVQ.l0
        omega
      refine ⟨_, rfl, X4, _, _, .ref r4, rfl, rfl, .of (t1 _ _ (tT _ _ eXQ)), atI_nat (j := 1) rfl, r4, as5, c4, rfl, (hLQ.same tT).same t1, by omega, fun HW R2 bs2 t2 hLW _ _ => ?_⟩
      refine fun m2 mdx2 hx2 hdx2 hne2 => ?_
      have t3 := sameM_fresh (C := C) hx2 hdx2
      refine ⟨m2, P2, R2, mdx2, I2, O2, J2, op4, bs2, c4, rfl, upd_same, .inl (t3 _ _ (t2 _ _ eP2)), hLW.same t3, by omega, by omega, fun q hq => by have := hVQ.w q hq; omega, fun k => absurd hVQ k, fun _ HX k8 A2 => ⟨rfl, ?_⟩⟩
      have tX := (t1.trans t2).trans (sameM_made hx2 hdx2 k8)
      have A1' := mch_same tX A1
      have hoX := tX _ _ (tT _ _ hoQ)
      have hLrX := (hLrQ.same tT).same tX
      have eSX := tX _ _ (tT _ _ eSQ)
      have eXX := tX _ _ (tT _ _ eXQ)
      have eoX := tX _ _ (tT _ _ eoQ)
      have hLX := (hLQ.same tT).same tX
      clear t1 t2 t3 k8 hx2 hdx2 hne2 hLW eP2 nP2 tX tT A1 hoQ hLrQ eSQ eXQ eoQ hLQ
      have hI1' := hVQ.i1
      refine ⟨_, rfl, _, rfl, m1, m2, I, O, L, I2, O2, J2, op, op4, c, c4, rfl, A1', A2, hV, hVQ, by omega, by omega, by omega, by omega, by omega, fun hn HY t sY et => ?_, fun he hn HY t sY et => ?_, fun he hop' => ⟨fun HY sY hres => ?_, fun HY t wd sY et hres => ?_⟩⟩
      · refine ⟨_, rfl, _, rfl, _, rfl, _, rfl, by show 3 ≤ sizeLine; decide, fun q1 hq1 => ?_⟩
        have t1 := sY.trans (same_new (o := .lst [.int I, .int O, .int L]) hq1)
        have et1 := same_new (o := .lst [.int I, .int O, .int L]) hq1 _ _ et
        have eq1 : (upd HY q1 (.lst [.int I, .int O, .int L])) q1 = some (.lst ([I, O, L].map V.int)) := upd_same
        generalize upd HY q1 (.lst [.int I, .int O, .int L]) = HZ at t1 et1 eq1 ⊢
        refine ⟨_, _, dp_lst (xs := [I2, O2, J2]) (t1 _ _ eSX), dp_lst eq1, shaped_lst _, shaped_lst _, _, rfl, ite_t (by rw [eqv_lst, decide_eq_false (fun e => hn e.symm)]; rfl) ?_⟩
        refine ⟨_, rfl, by show 2 ≤ sizeLine; decide, fun q2 hq2 => ?_⟩
        have eq2 : (upd HZ q2 (.tup [.str (Str.ofString "refused"), .str (Str.ofString "mismatch")])) q2 = _ := upd_same
        have et2 := same_new (o := .tup [.str (Str.ofString "refused"), .str (Str.ofString "mismatch")]) hq2 _ _ et1
        refine ⟨.tuple [.str (Str.ofString "refused"), .str (Str.ofString "mismatch")], .tuple [.str (Str.ofString "refused"), .str (Str.ofString "mismatch")], .tup (.of et2) (.cons (.str _) (.cons (.str _) .nil)), .tup (.of eq2) (.cons (.str _) (.cons (.str _) .nil)), by decide +kernel, by decide +kernel, ?_⟩
        rw [SeqAt.eqv_refl _ (by decide +kernel)]
        exact q _
      · have h3 : ([I2, O2, J2] : List Int) = [I, O, L] := he.symm
        refine ⟨_, rfl, _, rfl, _, rfl, _, rfl, by show 3 ≤ sizeLine; decide, fun q1 hq1 => ?_⟩
        have t1 := sY.trans (same_new (o := .lst [.int I, .int O, .int L]) hq1)
        have et1 := same_new (o := .lst [.int I, .int O, .int L]) hq1 _ _ et
        have eq1 : (upd HY q1 (.lst [.int I, .int O, .int L])) q1 = some (.lst ([I, O, L].map V.int)) := upd_same
        generalize upd HY q1 (.lst [.int I, .int O, .int L]) = HZ at t1 et1 eq1 ⊢
        refine ⟨_, _, dp_lst (xs := [I2, O2, J2]) (t1 _ _ eSX), dp_lst eq1, shaped_lst _, shaped_lst _, _, rfl, ite_f (by rw [eqv_lst, decide_eq_true h3]; rfl) ?_⟩
        refine ⟨_, rfl, X4, _, _, .ref oa4, rfl, rfl, .of (t1 _ _ eXX), at0, _, rfl, _, _, dp_lst (t1 _ _ eoX), dp_lst (t1 _ _ hoX), shaped_lst _, shaped_lst _, _, rfl, ite_t (by rw [eqv_lst, decide_eq_false (fun e => hn e.symm)]; rfl) ?_⟩
        refine ⟨_, rfl, Nat.zero_le _, fun q2 hq2 => ?_⟩
        have et2 : (upd HZ q2 (.lst [])) t = some (.lst (([] : List Int).map V.int)) := same_new hq2 _ _ et1
        have eq2 : (upd HZ q2 (.lst [])) q2 = some (.lst (([] : List Int).map V.int)) := upd_same
        refine ⟨_, _, dp_lst et2, dp_lst eq2, shaped_lst _, shaped_lst _, ?_⟩
        rw [eqv_lst, decide_eq_true rfl]
        exact q _
      · skip
        have h3 : ([I2, O2, J2] : List Int) = [I, O, L] := he.symm
        have hII : I2 = I := (List.cons.inj h3).1
        refine ⟨_, rfl, _, rfl, _, rfl, _, rfl, by show 3 ≤ sizeLine; decide, fun q1 hq1 => ?_⟩
        have t1 := sY.trans (same_new (o := .lst [.int I, .int O, .int L]) hq1)
        have eq1 : (upd HY q1 (.lst [.int I, .int O, .int L])) q1 = some (.lst ([I, O, L].map V.int)) := upd_same
        generalize upd HY q1 (.lst [.int I, .int O, .int L]) = HZ at t1 eq1 ⊢
        refine ⟨_, _, dp_lst (xs := [I2, O2, J2]) (t1 _ _ eSX), dp_lst eq1, shaped_lst _, shaped_lst _, _, rfl, ite_f (by rw [eqv_lst, decide_eq_true h3]; rfl) ?_⟩
        refine ⟨_, rfl, X4, _, _, .ref oa4, rfl, rfl, .of (t1 _ _ eXX), at0, _, rfl, _, _, dp_lst (t1 _ _ eoX), dp_lst (t1 _ _ hoX), shaped_lst _, shaped_lst _, _, rfl, ite_f (by rw [eqv_lst, decide_eq_true hop'.symm]; rfl) ?_⟩
        refine ⟨_, rfl, _, rfl, X4, _, _, .ref r4, rfl, rfl, .of (t1 _ _ eXX), atI_nat (j := 1) rfl, r, r4, as, as5, c, c4, I, rfl, hLrX.same t1, hLX.same t1, hI1, by omega, hV.w, fun q hq => by rw [← hII]; exact hVQ.w q hq, hV.st, hVQ.st, hV.ne, hVQ.ne, by omega, by omega, fun HE sE hr1 => ?_, fun HE t' wd' sE et' hr1 => ?_⟩
        · refine ⟨_, rfl, rfl, _, rfl, ite_t rfl ?_⟩
          refine ⟨_, rfl, rfl, ?_⟩
          show Q (.bl (decide (V.non = V.non))) HE
          rw [decide_eq_true rfl]
          exact q _
        · cases res_uniq hres hr1
      · skip
        have h3 : ([I2, O2, J2] : List Int) = [I, O, L] := he.symm
        have hII : I2 = I := (List.cons.inj h3).1
        refine ⟨_, rfl, _, rfl, _, rfl, _, rfl, by show 3 ≤ sizeLine; decide, fun q1 hq1 => ?_⟩
        have t1 := sY.trans (same_new (o := .lst [.int I, .int O, .int L]) hq1)
        have et1 := same_new (o := .lst [.int I, .int O, .int L]) hq1 _ _ et
        have eq1 : (upd HY q1 (.lst [.int I, .int O, .int L])) q1 = some (.lst ([I, O, L].map V.int)) := upd_same
        generalize upd HY q1 (.lst [.int I, .int O, .int L]) = HZ at t1 et1 eq1 ⊢
        refine ⟨_, _, dp_lst (xs := [I2, O2, J2]) (t1 _ _ eSX), dp_lst eq1, shaped_lst _, shaped_lst _, _, rfl, ite_f (by rw [eqv_lst, decide_eq_true h3]; rfl) ?_⟩
        refine ⟨_, rfl, X4, _, _, .ref oa4, rfl, rfl, .of (t1 _ _ eXX), at0, _, rfl, _, _, dp_lst (t1 _ _ eoX), dp_lst (t1 _ _ hoX), shaped_lst _, shaped_lst _, _, rfl, ite_f (by rw [eqv_lst, decide_eq_true hop'.symm]; rfl) ?_⟩
        refine ⟨_, rfl, _, rfl, X4, _, _, .ref r4, rfl, rfl, .of (t1 _ _ eXX), atI_nat (j := 1) rfl, r, r4, as, as5, c, c4, I, rfl, hLrX.same t1, hLX.same t1, hI1, by omega, hV.w, fun q hq => by rw [← hII]; exact hVQ.w q hq, hV.st, hVQ.st, hV.ne, hVQ.ne, by omega, by omega, fun HE sE hr1 => ?_, fun HE t' wd' sE et' hr1 => ?_⟩
        · cases res_uniq hres hr1
        · obtain rfl := Option.some.inj (res_uniq hres hr1)
          refine ⟨_, rfl, rfl, _, rfl, ite_f rfl ?_⟩
          have tt := sE _ _ et1
          have hAB := (t1.trans sE)
          refine ⟨_, rfl, _, _, _, _, true, rfl, .ty "list", .base (.lst tt), kit_ty (by decide +kernel), true, rfl, ?_⟩
          refine ⟨_, rfl, _, rfl, _, _, dp_lst tt, dp_lst et', shaped_lst _, shaped_lst _, ?_⟩
          rw [eqv_lst, decide_eq_true rfl]
          refine ⟨true, rfl, ?_⟩
          have hI2 : I2.toNat = I.toNat := by rw [hII]
          refine ⟨_, rfl, _, rfl, m2, m1, I2, O2, J2, I, O, L, op4, op, c4, c, rfl, mch_same hAB A2, mch_same hAB A1', hVQ, hV, by omega, by omega, by omega, by omega, by omega, fun hn => absurd h3 hn, fun _ hn => absurd hop'.symm hn, fun _ _ => ⟨fun HG sG hr2 => ?_, fun HG t3 wd2 sG et3 hr2 => ?_⟩⟩
          · rw [hI2] at hr2
            cases res_uniq (res_swap hres) hr2
          · rw [hI2] at hr2
            obtain rfl := Option.some.inj (res_uniq (res_swap hres) hr2)
            refine ⟨_, rfl, _, _, dp_lst et3, dp_lst (sG _ _ et'), shaped_lst _, shaped_lst _, ?_⟩
            rw [eqv_lst, decide_eq_true rfl]
            exact q _
end

theorem all_mk {l : PySem.W.OpenLaw} {w : World} {K : PySem.W.Frag} {h : Heap} {mg : Str → Option Value} {fa : Addr} {f0 f1 f2 f3 f4 f5 f6 f7 f8 f9 f10 cX cI cL C fI fC : Addr} (X : K.In h) (G : h.Ns mainGlobals mg) (hfa : mg "law" = some (.ref fa))
    {od0 an0 od1 an1 od2 an2 od3 an3 od4 an4 od5 an5 od6 an6 od7 an7 od8 an8 od9 an9 od10 an10 : Option Addr} {sl0 sl1 sl2 sl3 sl4 sl5 sl6 sl7 sl8 sl9 sl10 : Array (Option Value)} {oc0 kV0 dc0 pm0 cd0 ct0 oc1 kV1 dc1 pm1 cd1 ct1 oc2 kV2 dc2 pm2 cd2 ct2 oc3 kV3 dc3 pm3 cd3 ct3 oc4 kV4 dc4 pm4 cd4 ct4 oc5 kV5 dc5 pm5 cd5 ct5 oc6 kV6 dc6 pm6 cd6 ct6 oc7 kV7 dc7 pm7 cd7 ct7 oc8 kV8 dc8 pm8 cd8 ct8 oc9 kV9 dc9 pm9 cd9 ct9 oc10 kV10 dc10 pm10 cd10 ct10 : Value} {odI anI : Option Addr} {slI : Array (Option Value)} {ocI kVI dcI pmI cdI ctI : Value} {odJ anJ : Option Addr} {slJ : Array (Option Value)} {ocJ kVJ dcJ pmJ cdJ ctJ : Value} {tk1 tk2 : Tok}
    (a0 : PySem.W.nsIn K mainGlobals "check_rows" = some (some (.ref f0))) (l0 : K.lookup f0 = some ⟨oc0, od0, .func (PySem.W.fnOf "check_rows" "check_rows" (defArgs s_check_rows) (defBody s_check_rows) (defScope s_check_rows) .none kV0 dc0 pm0 an0 cd0 ct0), sl0⟩) (c0 : PySem.W.codeIn K cd0 "check_rows" = true) (k0 : PySem.W.keepIn K (.ref f0) = true)
    (a1 : PySem.W.nsIn K mainGlobals "check_said" = some (some (.ref f1))) (l1 : K.lookup f1 = some ⟨oc1, od1, .func (PySem.W.fnOf "check_said" "check_said" (defArgs s_check_said) (defBody s_check_said) (defScope s_check_said) .none kV1 dc1 pm1 an1 cd1 ct1), sl1⟩) (c1 : PySem.W.codeIn K cd1 "check_said" = true) (k1 : PySem.W.keepIn K (.ref f1) = true)
    (a2 : PySem.W.nsIn K mainGlobals "run" = some (some (.ref f2))) (l2 : K.lookup f2 = some ⟨oc2, od2, .func (PySem.W.fnOf "run" "run" (defArgs s_run) (defBody s_run) (defScope s_run) .none kV2 dc2 pm2 an2 cd2 ct2), sl2⟩) (c2 : PySem.W.codeIn K cd2 "run" = true) (k2 : PySem.W.keepIn K (.ref f2) = true)
    (a3 : PySem.W.nsIn K mainGlobals "separating_word" = some (some (.ref f3))) (l3 : K.lookup f3 = some ⟨oc3, od3, .func (PySem.W.fnOf "separating_word" "separating_word" (defArgs s_separating_word) (defBody s_separating_word) (defScope s_separating_word) .none kV3 dc3 pm3 an3 cd3 ct3), sl3⟩) (c3 : PySem.W.codeIn K cd3 "separating_word" = true) (k3 : PySem.W.keepIn K (.ref f3) = true)
    (a4 : PySem.W.nsIn K mainGlobals "_law_draws" = some (some (.ref f4))) (l4 : K.lookup f4 = some ⟨oc4, od4, .func (PySem.W.fnOf "_law_draws" "_law_draws" (defArgs s_law_draws) (defBody s_law_draws) (defScope s_law_draws) .none kV4 dc4 pm4 an4 cd4 ct4), sl4⟩) (c4 : PySem.W.codeIn K cd4 "_law_draws" = true) (k4 : PySem.W.keepIn K (.ref f4) = true)
    (a5 : PySem.W.nsIn K mainGlobals "_law_take" = some (some (.ref f5))) (l5 : K.lookup f5 = some ⟨oc5, od5, .func (PySem.W.fnOf "_law_take" "_law_take" (defArgs s_law_take) (defBody s_law_take) (defScope s_law_take) .none kV5 dc5 pm5 an5 cd5 ct5), sl5⟩) (c5 : PySem.W.codeIn K cd5 "_law_take" = true) (k5 : PySem.W.keepIn K (.ref f5) = true)
    (a6 : PySem.W.nsIn K mainGlobals "_law_flat" = some (some (.ref f6))) (l6 : K.lookup f6 = some ⟨oc6, od6, .func (PySem.W.fnOf "_law_flat" "_law_flat" (defArgs s_law_flat) (defBody s_law_flat) (defScope s_law_flat) .none kV6 dc6 pm6 an6 cd6 ct6), sl6⟩) (c6 : PySem.W.codeIn K cd6 "_law_flat" = true) (k6 : PySem.W.keepIn K (.ref f6) = true)
    (a7 : PySem.W.nsIn K mainGlobals "_law_machine" = some (some (.ref f7))) (l7 : K.lookup f7 = some ⟨oc7, od7, .func (PySem.W.fnOf "_law_machine" "_law_machine" (defArgs s_law_machine) (defBody s_law_machine) (defScope s_law_machine) .none kV7 dc7 pm7 an7 cd7 ct7), sl7⟩) (c7 : PySem.W.codeIn K cd7 "_law_machine" = true) (k7 : PySem.W.keepIn K (.ref f7) = true)
    (a8 : PySem.W.nsIn K mainGlobals "_law_outcome" = some (some (.ref f8))) (l8 : K.lookup f8 = some ⟨oc8, od8, .func (PySem.W.fnOf "_law_outcome" "_law_outcome" (defArgs s_law_outcome) (defBody s_law_outcome) (defScope s_law_outcome) .none kV8 dc8 pm8 an8 cd8 ct8), sl8⟩) (c8 : PySem.W.codeIn K cd8 "_law_outcome" = true) (k8 : PySem.W.keepIn K (.ref f8) = true)
    (a9 : PySem.W.nsIn K mainGlobals "_law_expected" = some (some (.ref f9))) (l9 : K.lookup f9 = some ⟨oc9, od9, .func (PySem.W.fnOf "_law_expected" "_law_expected" (defArgs s_law_expected) (defBody s_law_expected) (defScope s_law_expected) .none kV9 dc9 pm9 an9 cd9 ct9), sl9⟩) (c9 : PySem.W.codeIn K cd9 "_law_expected" = true) (k9 : PySem.W.keepIn K (.ref f9) = true)
    (a10 : PySem.W.nsIn K mainGlobals "law" = some (some (.ref f10))) (l10 : K.lookup f10 = some ⟨oc10, od10, .func (PySem.W.fnOf "law" "law" (defArgs s_law) (defBody s_law) (defScope s_law) .none kV10 dc10 pm10 an10 cd10 ct10), sl10⟩) (c10 : PySem.W.codeIn K cd10 "law" = true) (k10 : PySem.W.keepIn K (.ref f10) = true)
    (z0 : PySem.W.nsIn K mainGlobals "int" = some none) (z1 : PySem.W.nsIn K mainGlobals "isinstance" = some none) (z2 : PySem.W.nsIn K mainGlobals "len" = some none) (z3 : PySem.W.nsIn K mainGlobals "list" = some none) (z4 : PySem.W.nsIn K mainGlobals "max" = some none) (z5 : PySem.W.nsIn K mainGlobals "range" = some none) (z6 : PySem.W.nsIn K mainGlobals "tuple" = some none) (xa : PySem.W.nsIn K mainGlobals "InvalidMachine" = some (some (.ref cI))) (xb : PySem.W.excIn K cI [.type "ValueError", .type "Exception", .type "BaseException", .type "object"] "ValueError.__new__" = true) (xc : PySem.W.keepIn K (.ref cI) = true) (xd : PySem.W.typeIn K (.ref cI) = some (.type "type")) (xe : PySem.W.subIn K (.ref cI) (.ref cI) = some true) (xf : PySem.W.findIn K (.ref cI) "__getattribute__" = some (some (.builtin "BaseException.__getattribute__"))) (xg : PySem.W.findIn K (.ref cI) "__getattr__" = some none) (xh : PySem.W.subIn K (.ref cI) (.type "BaseException") = some true) (xi : PySem.W.hasDictIn K cI = true) (xj : PySem.W.findIn K (.ref cI) "__class__" = some (some (.builtin "object.__class__"))) (xk : PySem.W.specialIn K (.builtin "object.__class__") "__get__" = some (some (.builtin "getset_descriptor.__get__"))) (xl : PySem.W.takesIn K (.builtin "object.__class__") = some true) (xm : PySem.W.mroIn K cI (.type "object") = some true) (wa : PySem.W.nsIn K mainGlobals "InvalidLetter" = some (some (.ref cL))) (wb : PySem.W.excIn K cL [.type "ValueError", .type "Exception", .type "BaseException", .type "object"] "ValueError.__new__" = true) (wc : PySem.W.keepIn K (.ref cL) = true) (wd : PySem.W.typeIn K (.ref cL) = some (.type "type")) (we : PySem.W.subIn K (.ref cL) (.ref cL) = some true) (wf : PySem.W.findIn K (.ref cL) "__getattribute__" = some (some (.builtin "BaseException.__getattribute__"))) (wg : PySem.W.findIn K (.ref cL) "__getattr__" = some none) (wh : PySem.W.subIn K (.ref cL) (.type "BaseException") = some true) (wi : PySem.W.hasDictIn K cL = true) (wj : PySem.W.findIn K (.ref cL) "__class__" = some (some (.builtin "object.__class__"))) (wk : PySem.W.specialIn K (.builtin "object.__class__") "__get__" = some (some (.builtin "getset_descriptor.__get__"))) (wl : PySem.W.takesIn K (.builtin "object.__class__") = some true) (wm : PySem.W.mroIn K cL (.type "object") = some true) (ya : PySem.W.nsIn K mainGlobals "Machine" = some (some (.ref C))) (yb : PySem.W.plainGet K C Str.empty = true) (yc : PySem.W.hasDictIn K C = true) (yd : PySem.W.plainOver K C = true) (ye : PySem.W.findIn K (.ref C) "__setattr__" = some (some (.builtin "object.__setattr__"))) (yf : PySem.W.findIn K (.ref C) "inputs" = some none) (yg : PySem.W.findIn K (.ref C) "outputs" = some none) (yh : PySem.W.findIn K (.ref C) "lead" = some none) (yi : PySem.W.findIn K (.ref C) "opening" = some none) (yi2 : PySem.W.findIn K (.ref C) "rows" = some none) (yj : PySem.W.makesIn K C = true) (yk : PySem.W.findIn K (.ref C) "__init__" = some (some (.ref fI))) (yl : PySem.W.isFn K (.ref fI) = true) (ym : PySem.W.keepIn K (.ref C) = true) (yn : K.lookup fI = some ⟨ocI, odI, .func (PySem.W.fnOf "__init__" "Machine.__init__" (defArgs s_Machine_init) (defBody s_Machine_init) (defScope s_Machine_init) .none kVI dcI pmI anI cdI ctI), slI⟩) (yo : PySem.W.codeIn K cdI "Machine.__init__" = true) (yp : PySem.W.keepIn K (.ref fI) = true) (yq : PySem.W.findIn K (.ref C) "__call__" = some (some (.ref fC))) (yr : PySem.W.isFn K (.ref fC) = true) (ys : PySem.W.fnIn K fC = true) (yt : K.lookup fC = some ⟨ocJ, odJ, .func (PySem.W.fnOf "__call__" "Machine.__call__" (defArgs s_Machine_call) (defBody s_Machine_call) (defScope s_Machine_call) .none kVJ dcJ pmJ anJ cdJ ctJ), slJ⟩) (yu : PySem.W.codeIn K cdJ "Machine.__call__" = true) (yv : PySem.W.keepIn K (.ref fC) = true) (ga : PySem.W.nsIn K mainGlobals "LEAST_LEAD" = some (some (.int (-3) tk1))) (gb : PySem.W.nsIn K mainGlobals "GREATEST_LEAD" = some (some (.int 2 tk2))) (va : PySem.W.nsIn K mainGlobals "Mismatch" = some (some (.ref cX))) (vb : PySem.W.excIn K cX [.type "ValueError", .type "Exception", .type "BaseException", .type "object"] "ValueError.__new__" = true) (vc : PySem.W.keepIn K (.ref cX) = true) (vd : PySem.W.typeIn K (.ref cX) = some (.type "type")) (ve : PySem.W.subIn K (.ref cX) (.ref cX) = some true) (vf : PySem.W.findIn K (.ref cX) "__getattribute__" = some (some (.builtin "BaseException.__getattribute__"))) (vg : PySem.W.findIn K (.ref cX) "__getattr__" = some none) (vh : PySem.W.subIn K (.ref cX) (.type "BaseException") = some true) (vi : PySem.W.hasDictIn K cX = true) (vj : PySem.W.findIn K (.ref cX) "__class__" = some (some (.builtin "object.__class__"))) (vk : PySem.W.specialIn K (.builtin "object.__class__") "__get__" = some (some (.builtin "getset_descriptor.__get__"))) (vl : PySem.W.takesIn K (.builtin "object.__class__") = some true) (vm : PySem.W.mroIn K cX (.type "object") = some true) :
    ∃ fd : FuncData, (∀ (s : Shared) (v : Value), BindsTo s fd ⟨[v], []⟩ [("script", v)]) ∧ ∀ base : Heap, K.In base → base.Ns mainGlobals mg → FnOk l.prog w K mg base CX0 8 fa fd ["script"] (spLaw K) := by
  have e := hfa.symm.trans (PySem.W.mg_of X G a10)
  cases e
  have T : Txt K mg := ⟨⟨f0, _, fun_mk (st := s_check_rows) l0 c0 k0, PySem.W.mg_of X G a0, (fun_mk (st := s_check_rows) l0 c0 k0).binds fun _ _ _ _ _ _ us hl => match us, hl with | [_, _], _ => rfl⟩, ⟨f1, _, fun_mk (st := s_check_said) l1 c1 k1, PySem.W.mg_of X G a1, (fun_mk (st := s_check_said) l1 c1 k1).binds fun _ _ _ _ _ _ us hl => match us, hl with | [_, _], _ => rfl⟩, ⟨f2, _, fun_mk (st := s_run) l2 c2 k2, PySem.W.mg_of X G a2, (fun_mk (st := s_run) l2 c2 k2).binds fun _ _ _ _ _ _ us hl => match us, hl with | [_, _, _], _ => rfl⟩, ⟨f3, _, fun_mk (st := s_separating_word) l3 c3 k3, PySem.W.mg_of X G a3, (fun_mk (st := s_separating_word) l3 c3 k3).binds fun _ _ _ _ _ _ us hl => match us, hl with | [_, _], _ => rfl⟩, ⟨f4, _, fun_mk (st := s_law_draws) l4 c4 k4, PySem.W.mg_of X G a4, (fun_mk (st := s_law_draws) l4 c4 k4).binds fun _ _ _ _ _ _ us hl => match us, hl with | [_, _], _ => rfl⟩, ⟨f5, _, fun_mk (st := s_law_take) l5 c5 k5, PySem.W.mg_of X G a5, (fun_mk (st := s_law_take) l5 c5 k5).binds fun _ _ _ _ _ _ us hl => match us, hl with | [_, _], _ => rfl⟩, ⟨f6, _, fun_mk (st := s_law_flat) l6 c6 k6, PySem.W.mg_of X G a6, (fun_mk (st := s_law_flat) l6 c6 k6).binds fun _ _ _ _ _ _ us hl => match us, hl with | [_], _ => rfl⟩, ⟨f7, _, fun_mk (st := s_law_machine) l7 c7 k7, PySem.W.mg_of X G a7, (fun_mk (st := s_law_machine) l7 c7 k7).binds fun _ _ _ _ _ _ us hl => match us, hl with | [_, _, _, _, _], _ => rfl⟩, ⟨f8, _, fun_mk (st := s_law_outcome) l8 c8 k8, PySem.W.mg_of X G a8, (fun_mk (st := s_law_outcome) l8 c8 k8).binds fun _ _ _ _ _ _ us hl => match us, hl with | [_, _], _ => rfl⟩, ⟨f9, _, fun_mk (st := s_law_expected) l9 c9 k9, PySem.W.mg_of X G a9, (fun_mk (st := s_law_expected) l9 c9 k9).binds fun _ _ _ _ _ _ us hl => match us, hl with | [_, _], _ => rfl⟩, PySem.W.mg_none_of X G z0, PySem.W.mg_none_of X G z1, PySem.W.mg_none_of X G z2, PySem.W.mg_none_of X G z3, PySem.W.mg_none_of X G z4, PySem.W.mg_none_of X G z5, PySem.W.mg_none_of X G z6, ⟨cX, cI, cL, C, fI, fC, _, _, tk1, tk2, ⟨PySem.W.mg_of X G xa, xb, xc, xd, xe, ⟨xf, xg, xh, xi, xj, xk, xl, xm⟩⟩, ⟨PySem.W.mg_of X G wa, wb, wc, wd, we, ⟨wf, wg, wh, wi, wj, wk, wl, wm⟩⟩, ⟨⟨yb, yc, yd, ye⟩, yf, yg, yh, yi, yi2⟩, ⟨yj, yk, yl, ym⟩, PySem.W.mg_of X G ya, fun_mk (st := s_Machine_init) yn yo yp, (fun_mk (st := s_Machine_init) yn yo yp).binds fun _ _ _ _ _ _ us hl => match us, hl with | [_, _, _, _, _, _], _ => rfl, ⟨yq, yr, ys⟩, fun_mk (st := s_Machine_call) yt yu yv, (fun_mk (st := s_Machine_call) yt yu yv).binds fun _ _ _ _ _ _ us hl => match us, hl with | [_, _], _ => rfl, PySem.W.mg_of X G ga, PySem.W.mg_of X G gb, ⟨PySem.W.mg_of X G va, vb, vc, vd, ve, ⟨vf, vg, vh, vi, vj, vk, vl, vm⟩⟩⟩⟩
  exact ⟨_, fun s v => .of_eq rfl, fun base _ _ => ok_law (fun_mk (st := s_law) l10 c10 k10) T⟩
end My
open PySem PySem.W PyProof.Rows
set_option maxHeartbeats 0 in
theorem PySem.Challenge.cw_reactivesynth_k42_separating_word_holds : PySem.Challenge.rw_reactivesynth_k42_separating_word.Holds := by
  w_on; o_law; k_head; (case hw => w_witness2)
  k_fill
  refine L2.walk_of (l := PySem.Challenge.rw_reactivesynth_k42_separating_word) (n := 63) (k := 8) (x := "script") (CX := fun _ => L2.CX0) (sp := fun w => My.spLaw _) rfl (by decide) rfl ⟨rfl, by decide, by decide⟩ (fun w h Y => PySem.W.kIn_of Y) ?F (fun _ _ a ns hl _ hS => ⟨a, ns, rfl, hS, hl, fun _ => rfl⟩) (fun _ _ _ _ _ h => h)
  case F =>
    intro w mg fa h KX G hmg
    refine' My.all_mk KX G hmg ?a0 ?l0 ?c0 ?k0 ?a1 ?l1 ?c1 ?k1 ?a2 ?l2 ?c2 ?k2 ?a3 ?l3 ?c3 ?k3 ?a4 ?l4 ?c4 ?k4 ?a5 ?l5 ?c5 ?k5 ?a6 ?l6 ?c6 ?k6 ?a7 ?l7 ?c7 ?k7 ?a8 ?l8 ?c8 ?k8 ?a9 ?l9 ?c9 ?k9 ?a10 ?l10 ?c10 ?k10 ?z0 ?z1 ?z2 ?z3 ?z4 ?z5 ?z6 ?xa ?xb ?xc ?xd ?xe ?xf ?xg ?xh ?xi ?xj ?xk ?xl ?xm ?wa ?wb ?wc ?wd ?we ?wf ?wg ?wh ?wi ?wj ?wk ?wl ?wm ?ya ?yb ?yc ?yd ?ye ?yf ?yg ?yh ?yi ?yi2 ?yj ?yk ?yl ?ym ?yn ?yo ?yp ?yq ?yr ?ys ?yt ?yu ?yv ?ga ?gb ?va ?vb ?vc ?vd ?ve ?vf ?vg ?vh ?vi ?vj ?vk ?vl ?vm
    (case a0 => k_is); (case l0 => k_is); (case c0 => k_is); (case k0 => k_is); (case a1 => k_is); (case l1 => k_is); (case c1 => k_is); (case k1 => k_is); (case a2 => k_is); (case l2 => k_is); (case c2 => k_is); (case k2 => k_is); (case a3 => k_is); (case l3 => k_is); (case c3 => k_is); (case k3 => k_is); (case a4 => k_is); (case l4 => k_is); (case c4 => k_is); (case k4 => k_is); (case a5 => k_is); (case l5 => k_is); (case c5 => k_is); (case k5 => k_is); (case a6 => k_is); (case l6 => k_is); (case c6 => k_is); (case k6 => k_is); (case a7 => k_is); (case l7 => k_is); (case c7 => k_is); (case k7 => k_is); (case a8 => k_is); (case l8 => k_is); (case c8 => k_is); (case k8 => k_is); (case a9 => k_is); (case l9 => k_is); (case c9 => k_is); (case k9 => k_is); (case a10 => k_is); (case l10 => k_is); (case c10 => k_is); (case k10 => k_is); (case z0 => k_is); (case z1 => k_is); (case z2 => k_is); (case z3 => k_is); (case z4 => k_is); (case z5 => k_is); (case z6 => k_is); (case xa => first | rfl | k_is); (case xb => first | k_exc | rfl | k_is); (case xc => first | rfl | k_is); (case xd => first | rfl | k_is); (case xe => first | rfl | k_is); (case xf => first | rfl | k_is); (case xg => first | rfl | k_is); (case xh => first | rfl | k_is); (case xi => first | rfl | k_is); (case xj => first | rfl | k_is); (case xk => first | rfl | k_is); (case xl => first | rfl | k_is); (case xm => first | rfl | k_is); (case wa => k_is); (case wb => first | k_exc | rfl | k_is); (case wc => k_is); (case wd => k_is); (case we => k_is); (case wf => k_is); (case wg => k_is); (case wh => k_is); (case wi => k_is); (case wj => k_is); (case wk => k_is); (case wl => k_is); (case wm => k_is); (case ya => k_is); (case yb => k_is); (case yc => k_is); (case yd => k_is); (case ye => k_is); (case yf => k_is); (case yg => k_is); (case yh => k_is); (case yi => k_is); (case yi2 => k_is); (case yj => k_is); (case yk => k_is); (case yl => k_is); (case ym => k_is); (case yn => k_is); (case yo => k_is); (case yp => k_is); (case yq => k_is); (case yr => k_is); (case ys => k_is); (case yt => k_is); (case yu => k_is); (case yv => k_is); (case ga => k_is); (case gb => k_is); (case va => k_is); (case vb => first | k_exc | rfl | k_is); (case vc => k_is); (case vd => k_is); (case ve => k_is); (case vf => k_is); (case vg => k_is); (case vh => k_is); (case vi => k_is); (case vj => k_is); (case vk => k_is); (case vl => k_is); (case vm => k_is)
