import PyProof.Rows.All
import Wide.All
import OpenK.AllK
import Wide.FinOn
import HandS.ForMost
import HandS.ForExc
import HandS.ExcIs
import HandS.ExcOwn
import HandS.WordsExc
import HandS.TryMany
import HandS.TryOnly
import HandS.Codes
import HandS.IsInst
import HandS.TupAny
import HandS.TupMul
import HandS.SortKw
import KE.KMinKey
import PyProof.WalksMore
import HandS.Dict
import HandS.Style
import HandS.Conv
import HandS.Walk
import HandS.Zip
import PyProof.AutoSeq1
import HandS.Text
import HandS.SetFor
import HandS.Strs
import HandS.Star
import HandS.MakeKwOnly
import HandS.Property
import HandS.Steps
import HandS.Defaults
import HandS.WideBits
import HandS.StrMore
import HandS.Replace
import HandS.Deep
import HandS.DictComp
import KE.GoesMore
import HandS.Iter
import HandS.Nested
import HandS.NestedK
import HandS.EndTab
import HandS.AnyAll
import PySem.Challenge.RW_reactivesynth_k25_to_buchi
set_option Elab.async false
set_option linter.all false
set_option maxRecDepth 100000
set_option maxHeartbeats 4000000
namespace Wd
/-- m is the length of a proper border of the first k letters -/
def Bd (w : Nat → Int) (k m : Nat) : Prop := m < k ∧ ∀ i, i < m → w i = w (k - m + i)
/-- .. the greatest -/
def Lg (w : Nat → Int) (k m : Nat) : Prop := Bd w k m ∧ ∀ j, Bd w k j → j ≤ m
theorem Bd.zero {w : Nat → Int} {k : Nat} (h : 0 < k) : Bd w k 0 := ⟨h, fun i hi => absurd hi (Nat.not_lt_zero i)⟩
theorem Bd.down {w : Nat → Int} {k m : Nat} (h : Bd w (k + 1) (m + 1)) : Bd w k m ∧ w m = w k := by
  obtain ⟨h1, h2⟩ := h
  refine ⟨⟨by omega, fun i hi => ?_⟩, ?_⟩
  · have := h2 i (by omega)
    rw [this]
    congr 1
    omega
  · have := h2 m (by omega)
    rw [this]
    congr 1
    omega
theorem Bd.up {w : Nat → Int} {k m : Nat} (h : Bd w k m) (e : w m = w k) : Bd w (k + 1) (m + 1) := by
  obtain ⟨h1, h2⟩ := h
  refine ⟨by omega, fun i hi => ?_⟩
  rcases Nat.lt_or_ge i m with c | c
  · rw [h2 i c]
    congr 1
    omega
  · have : i = m := by omega
    subst this
    rw [e]
    congr 1
    omega
theorem Bd.inner {w : Nat → Int} {k b j : Nat} (h : Bd w k b) (g : Bd w k j) (l : j < b) : Bd w b j := by
  obtain ⟨h1, h2⟩ := h
  obtain ⟨g1, g2⟩ := g
  refine ⟨l, fun i hi => ?_⟩
  rw [g2 i hi, h2 (b - j + i) (by omega)]
  congr 1
  omega
theorem Bd.trans {w : Nat → Int} {k b j : Nat} (h : Bd w k b) (g : Bd w b j) : Bd w k j := by
  obtain ⟨h1, h2⟩ := h
  obtain ⟨g1, g2⟩ := g
  refine ⟨by omega, fun i hi => ?_⟩
  rw [g2 i hi, h2 (b - j + i) (by omega)]
  congr 1
  omega
/-- what the inner loop keeps: b is a border of the first k letters, and no border of the first k + 1 is longer than b + 1 -/
def In (w : Nat → Int) (k b : Nat) : Prop := Bd w k b ∧ ∀ j, Bd w (k + 1) (j + 1) → j ≤ b
theorem In.start {w : Nat → Int} {k b : Nat} (h : Lg w k b) : In w k b := ⟨h.1, fun j hj => h.2 j hj.down.1⟩
theorem In.step {w : Nat → Int} {k b c : Nat} (h : In w k b) (hb : 0 < b) (ne : w k ≠ w b) (g : Lg w b c) : In w k c ∧ c < b := by
  refine ⟨⟨h.1.trans g.1, fun j hj => ?_⟩, g.1.1⟩
  have h1 := h.2 j hj
  obtain ⟨h2, h3⟩ := hj.down
  have : j ≠ b := fun z => ne (by rw [← h3, z])
  exact g.2 j (h.1.inner h2 (by omega))
theorem In.found {w : Nat → Int} {k b : Nat} (h : In w k b) (e : w k = w b) : Lg w (k + 1) (b + 1) := by
  refine ⟨h.1.up e.symm, fun j hj => ?_⟩
  cases j with
  | zero => omega
  | succ j => exact Nat.succ_le_succ (h.2 j hj)
theorem In.none {w : Nat → Int} {k : Nat} (h : In w k 0) (ne : w k ≠ w 0) : Lg w (k + 1) 0 := by
  refine ⟨Bd.zero (by omega), fun j hj => ?_⟩
  cases j with
  | zero => omega
  | succ j =>
    have h1 := h.2 j hj
    have : j = 0 := by omega
    subst this
    exact absurd hj.down.2.symm ne
/-! periods -/
/-- the letters of the word without end that repeats the first n letters -/
def cyc (w : Nat → Int) (n i : Nat) : Int := w (i % n)
def Rp (w : Nat → Int) (n p : Nat) : Prop := ∀ i, cyc w n (i + p) = cyc w n i
theorem Rp.mul {w : Nat → Int} {n p : Nat} (h : Rp w n p) : ∀ k i, cyc w n (i + k * p) = cyc w n i
  | 0, i => by rw [Nat.zero_mul, Nat.add_zero]
  | k + 1, i => by
    rw [Nat.succ_mul, ← Nat.add_assoc, h, h.mul k i]
theorem Rp.mod {w : Nat → Int} {n p i : Nat} (h : Rp w n p) : cyc w n i = cyc w n (i % p) := by
  have := h.mul (i / p) (i % p)
  rw [Nat.mul_comm, Nat.mod_add_div] at this
  exact this
theorem cyc_lt {w : Nat → Int} {n i : Nat} (h : i < n) : cyc w n i = w i := by
  unfold cyc
  rw [Nat.mod_eq_of_lt h]
theorem rp_self (w : Nat → Int) (n : Nat) : Rp w n n := fun i => by
  unfold cyc
  rw [Nat.add_mod_right]
/-- a period of the finite word that divides its length is one of the word without end -/
theorem rp_of {w : Nat → Int} {n p : Nat} (hp : 0 < p) (hd : p ∣ n) (hn : 0 < n) (h : ∀ i, i + p < n → w i = w (i + p)) : Rp w n p := by
  have red : ∀ k i, i + k * p < n → w (i + k * p) = w i := by
    intro k
    induction k with
    | zero => intro i _; rw [Nat.zero_mul, Nat.add_zero]
    | succ k ih =>
      intro i hi
      rw [Nat.succ_mul] at hi ⊢
      rw [← Nat.add_assoc, ← h (i + k * p) (by omega)]
      exact ih i (by omega)
  have toMod : ∀ i, cyc w n i = w (i % p) := by
    intro i
    unfold cyc
    have h1 : i % n < n := Nat.mod_lt _ hn
    have e : i % n % p + (i % n / p) * p = i % n := by
      rw [Nat.mul_comm]
      exact Nat.mod_add_div _ _
    have h2 := red (i % n / p) (i % n % p) (by rw [e]; exact h1)
    rw [e] at h2
    rw [h2, Nat.mod_mod_of_dvd _ hd]
  intro i
  rw [toMod, toMod, Nat.add_mod_right]
/-- the least repetition: r divides n, the word repeats its first r letters, and no shorter one does -/
structure Least (w : Nat → Int) (n r : Nat) : Prop where
  pos : 0 < r
  dvd : r ∣ n
  rp : Rp w n r
  min : ∀ p, 0 < p → p ∣ n → Rp w n p → r ≤ p
theorem least_of {w : Nat → Int} {n b : Nat} (hn : 0 < n) (h : Lg w n b) : Least w n (if n % (n - b) = 0 then n - b else n) := by
  obtain ⟨⟨hb, h1⟩, h2⟩ := h
  have hs : 0 < n - b := by omega
  -- n - b is the least period of the finite word
  have per : ∀ i, i + (n - b) < n → w i = w (i + (n - b)) := fun i hi => by
    have := h1 i (by omega)
    rw [this]
    congr 1
    omega
  have low : ∀ p, 0 < p → p ≤ n → (∀ i, i + p < n → w i = w (i + p)) → n - b ≤ p := fun p hp hpn hq => by
    have := h2 (n - p) ⟨by omega, fun i hi => by
      have := hq i (by omega)
      rw [this]
      congr 1
      omega⟩
    omega
  have fin : ∀ p, Rp w n p → ∀ i, i + p < n → w i = w (i + p) := fun p hp i hi => by
    have := hp i
    rw [cyc_lt hi, cyc_lt (by omega)] at this
    exact this.symm
  -- a shorter repetition makes n - b a repetition
  have key : ∀ p, 0 < p → p ∣ n → p < n → Rp w n p → n % (n - b) = 0 ∧ n - b ≤ p := by
    intro p hp hd hlt hr
    have le := low p hp (by omega) (fin p hr)
    obtain ⟨q, hq⟩ := hd
    have hq2 : 2 ≤ q := by
      rcases Nat.lt_or_ge q 2 with c | c
      · have : q = 0 ∨ q = 1 := by omega
        rcases this with z | z
        · rw [z] at hq; omega
        · rw [z] at hq; omega
      · exact c
    have h2p : 2 * p ≤ n := by
      rw [hq, Nat.mul_comm 2 p]
      exact Nat.mul_le_mul_left p hq2
    have rs : Rp w n (n - b) := by
      intro i
      have e1 : cyc w n (i + (n - b)) = cyc w n (i % p + (n - b)) := by
        have := hr.mul (i / p) (i % p + (n - b))
        rw [← this]
        congr 1
        have := Nat.mod_add_div i p
        rw [Nat.mul_comm (i / p) p]
        omega
      have hm : i % p < p := Nat.mod_lt _ hp
      rw [e1, hr.mod (i := i), cyc_lt (show i % p + (n - b) < n by omega), cyc_lt (show i % p < n by omega)]
      exact (per _ (by omega)).symm
    -- p is a multiple of n - b
    have hmod : p % (n - b) = 0 := by
      rcases Nat.eq_zero_or_pos (p % (n - b)) with z | z
      · exact z
      · have lt : p % (n - b) < n - b := Nat.mod_lt _ hs
        have rm : Rp w n (p % (n - b)) := by
          intro i
          have a := rs.mul (p / (n - b)) (i + p % (n - b))
          have e : i + p % (n - b) + p / (n - b) * (n - b) = i + p := by
            rw [Nat.mul_comm, Nat.add_assoc, Nat.mod_add_div]
          rw [e] at a
          rw [← a]
          exact hr i
        have := low _ z (by omega) (fin _ rm)
        omega
    refine ⟨?_, le⟩
    exact Nat.mod_eq_zero_of_dvd (Nat.dvd_trans (Nat.dvd_of_mod_eq_zero hmod) ⟨q, hq⟩)
  by_cases c : n % (n - b) = 0
  · rw [if_pos c]
    refine ⟨hs, Nat.dvd_of_mod_eq_zero c, rp_of hs (Nat.dvd_of_mod_eq_zero c) hn per, fun p hp hd hr => ?_⟩
    exact low p hp (Nat.le_of_dvd hn hd) (fin p hr)
  · rw [if_neg c]
    refine ⟨hn, Nat.dvd_refl n, rp_self w n, fun p hp hd hr => ?_⟩
    have le := Nat.le_of_dvd hn hd
    rcases Nat.lt_or_ge p n with l | l
    · exact absurd (key p hp hd l hr).1 c
    · exact l
end Wd
/-! ### min(xs, default=d) of a list of ints: own rule -/
namespace MinD
open PySem PySem.W PyProof.Rows
def kwD (d : Value) : List (Str × Value) := [(Str.ofString "default", d)]
theorem nameL : (toString "min" ++ toString ".loop" : String) = "min.loop" := by decide
section
variable {prog : Program} {w : World} {A : Around} {R : Result → Shared → Prop} {I S : Addr} {fp wr : List Addr} {n : Nat} {P : Nat → Value → Prop} {St : Nat → Heap → Prop} {d : Value}
theorem loopD (W : Walks prog w A.in1 I fp wr n P St) (bt : Nat → Nat → Bool) (cm : CmpOf prog w A.in1 .Lt P bt) (nf : S ∉ fp) :
    ∀ (m j : Nat) (u : Shared) (best : Value) (c : Nat), n - (j + 1) = m → j + 1 ≤ n → St (j + 1) u.heap → P (argBest bt j) best →
    u.heap.get? S = some { cls := .type "list", dict := none, data := .seq #[best, best] c, slots := #[] } →
    (∀ v g tk, P (argBest bt (n - 1)) v → (∀ b o, b ∉ wr → b ≠ S → u.heap.get? b = some o → g.get? b = some o) → R (.ok (.ret v)) { u with heap := g, toks := tk }) →
    codeAny (model prog w) A (.builtin "min.loop" ⟨[.ref I, .none, .ref S], kwD d⟩) R u := by
  have nw : S ∉ wr := fun q => nf (W.sub _ q)
  intro m
  induction m with
  | zero =>
    intro j u best c em hj st pb gS out
    have ej : j + 1 = n := by omega
    refine codeAny_builtin PySem.F.entry_min_loop ?_
    rw [Around.under_plainId PySem.F.plain_min_loop _]
    show wpAny _ A.in1 (seqItems? (.ref S) >>= _) _ _ u
    refine wpAny_bind (wpAny_seqItems gS rfl ?_)
    show wpAny _ A.in1 (tryCatch (pyNext (.ref I)) _ >>= _) _ _ u
    refine wpAny_bind (wpAny_tryCatch (W.done u _ _ (ej ▸ st) fun g tk keep => ?_))
    have gS2 := keep S _ nw gS
    show wpAny _ A.in1 (updateSeq S (fun _ => #[]) >>= _) _ _ _
    refine wpAny_bind (wpAny_updateSeq gS2 rfl (wpAny_bind (wpAny_letGo (wpAny_pure ?_))))
    exact out best _ tk (by rw [← ej]; exact pb) fun b o hb hS e => (Heap.get?_update_other _ _ (Ne.symm hS)).trans (keep b o hb e)
  | succ m ih =>
    intro j u best c em hj st pb gS out
    have lt : j + 1 < n := by omega
    refine codeAny_builtin PySem.F.entry_min_loop ?_
    rw [Around.under_plainId PySem.F.plain_min_loop _]
    show wpAny _ A.in1 (seqItems? (.ref S) >>= _) _ _ u
    refine wpAny_bind (wpAny_seqItems gS rfl ?_)
    show wpAny _ A.in1 (tryCatch (pyNext (.ref I)) _ >>= _) _ _ u
    refine wpAny_bind (wpAny_tryCatch (W.item (j + 1) u _ _ lt st fun v g tk pv st2 keep => ?_))
    have gS2 := keep S _ nw gS
    show wpAny _ A.in1 (tryCatch (holding [v, v] (richCompare .Lt v best >>= _)) _ >>= _) _ _ _
    refine wpAny_bind (wpAny_tryCatch (wpAny_holding (wpAny_bind (cm (j + 1) (argBest bt j) v best _ _ _ pv pb ?_))))
    refine wpAny_bind (wpAny_holding (wpAny_truthy_bool (wpAny_bind (wpAny_letGo (wpAny_pure ?_)))))
    cases hb : bt (j + 1) (argBest bt j) with
    | true =>
      simp only [if_true]
      refine wpAny_bind (wpAny_updateSeq gS2 rfl (wpAny_bind (wpAny_letGo ?_)))
      rw [nameL]
      refine wpAny_pure ⟨plainId_quiet PySem.F.plain_min_loop _, ih (j + 1) _ v _ (by omega) lt (W.frame _ _ _ st2 fun b bf o e => ?_) (by simp only [argBest, hb, if_true]; exact pv) (Heap.get?_update_self _ gS2 rfl)
        fun v2 g2 tk2 p2 keep2 => ?_⟩
      · exact (Heap.get?_update_other _ _ (fun q : S = b => nf (by rw [q]; exact bf))).trans e
      · exact out v2 g2 tk2 p2 fun b o hw hS e => keep2 b o hw hS ((Heap.get?_update_other _ _ (Ne.symm hS)).trans (keep b o hw e))
    | false =>
      simp only [Bool.false_eq_true, if_false]
      refine wpAny_bind (wpAny_letGo ?_)
      rw [nameL]
      exact wpAny_pure ⟨plainId_quiet PySem.F.plain_min_loop _, ih (j + 1) _ best c (by omega) lt st2 (by simp only [argBest, hb, Bool.false_eq_true, if_false]; exact pb) gS2 fun v2 g2 tk2 p2 keep2 =>
        out v2 g2 tk2 p2 fun b o hw hS e => keep2 b o hw hS (keep b o hw e)⟩
theorem firstD (W : Walks prog w A.in1 I fp wr n P St) (bt : Nat → Nat → Bool) (cm : CmpOf prog w A.in1 .Lt P bt) (nf : S ∉ fp) {u : Shared} {c : Nat} (st : St 0 u.heap)
    (gS : u.heap.get? S = some { cls := .type "list", dict := none, data := .seq #[] c, slots := #[] })
    (out : ∀ v g tk, (0 < n → P (argBest bt (n - 1)) v) → (n = 0 → v = d) → (∀ b o, b ∉ wr → b ≠ S → u.heap.get? b = some o → g.get? b = some o) → R (.ok (.ret v)) { u with heap := g, toks := tk }) :
    codeAny (model prog w) A (.builtin "min.loop" ⟨[.ref I, .none, .ref S], kwD d⟩) R u := by
  have nw : S ∉ wr := fun q => nf (W.sub _ q)
  refine codeAny_builtin PySem.F.entry_min_loop ?_
  rw [Around.under_plainId PySem.F.plain_min_loop _]
  show wpAny _ A.in1 (seqItems? (.ref S) >>= _) _ _ u
  refine wpAny_bind (wpAny_seqItems gS rfl ?_)
  show wpAny _ A.in1 (tryCatch (pyNext (.ref I)) _ >>= _) _ _ u
  by_cases h0 : 0 < n
  · refine wpAny_bind (wpAny_tryCatch (W.item 0 u _ _ h0 st fun v g tk pv st2 keep => ?_))
    have gS2 := keep S _ nw gS
    show wpAny _ A.in1 (updateSeq S (fun _ => #[v, v]) >>= _) _ _ _
    refine wpAny_bind (wpAny_updateSeq gS2 rfl ?_)
    rw [nameL]
    refine wpAny_pure ⟨plainId_quiet PySem.F.plain_min_loop _, loopD W bt cm nf _ 0 _ v _ rfl h0 (W.frame _ _ _ st2 fun b bf o e => ?_) pv (Heap.get?_update_self _ gS2 rfl) fun v2 g2 tk2 p2 keep2 => ?_⟩
    · exact (Heap.get?_update_other _ _ (fun q : S = b => nf (by rw [q]; exact bf))).trans e
    · exact out v2 g2 tk2 (fun _ => p2) (fun z => by omega) fun b o hw hS e => keep2 b o hw hS ((Heap.get?_update_other _ _ (Ne.symm hS)).trans (keep b o hw e))
  · have e0 : n = 0 := by omega
    refine wpAny_bind (wpAny_tryCatch (W.done u _ _ (by rw [e0]; exact st) fun g tk keep => ?_))
    show wpAny _ A.in1 (rule _ >>= _) _ _ _
    refine wpAny_bind (wpAny_rule (wpAny_pure ?_))
    exact out d g tk (fun z => absurd z h0) (fun _ => rfl) fun b o hw _ e => keep b o hw e
end
section
variable {prog : Program} {w : World} {A : Around} {E : Value → Shared → Prop} {s : Shared} {d : Value}
theorem args_d (a v : Value) : argsOk "min" ⟨[a], kwD v⟩ := by
  unfold argsOk
  kernel_rfl
theorem callD {l : Addr} {xs : Array (Int × Tok)} {Q : Value → Shared → Prop} (hh : A.handled = none) (hl : s.heap.IsList l (intItems xs))
    (h : ∀ v g tk, (0 < xs.size → (intItems xs)[argBest (fun i j => decide (numAt xs i < numAt xs j)) (xs.size - 1)]? = some v) → (xs.size = 0 → v = d) → (∀ b o, s.heap.get? b = some o → g.get? b = some o) → Q v { s with heap := g, toks := tk }) :
    wpAny (model prog w) A (call (.builtin "min") [.ref l] (kwD d)) Q E s := by
  refine kmk_tree PySem.F.kind_min PySem.F.plain_min PySem.F.entry_min (args_d _ _) ?_
  show wpAny _ A.in1 (Builtin.Builtins.bindParams "min" ["key", "default"] 0 ⟨[], kwD d⟩ >>= _) _ _ s
  refine wpAny_bind (wpAny_of_eq (show Builtin.Builtins.bindParams "min" ["key", "default"] 0 ⟨[], kwD d⟩ = pure [none, some d] from rfl) ?_)
  refine wpAny_bind (wpAny_pure ?_)
  refine wpAny_bind (iter_intList hl fun u eu st hfp hlI => ?_)
  subst eu
  refine wpAny_bind (wpAny_newObj_type ?_)
  rw [nameL]
  refine wpAny_pure ⟨plainId_quiet PySem.F.plain_min_loop _, firstD (Walks.list (A := A.in1) hh _ l hlI (intItems xs)) _ (CmpOf.ints_lt (numAt xs) (fun _ _ => intItems_at)) (fun hm => Nat.lt_irrefl _ (hfp _ hm)) ?_ (Heap.get?_push_size _ rfl) fun v g tk p1 p2 keep => ?_⟩
  · exact (Walks.list (prog := prog) (w := w) (A := A.in1) hh _ l hlI (intItems xs)).frame _ _ _ st fun b _ o e => Heap.get?_push_of_some _ e
  · have hsz : (intItems xs).size = xs.size := by simp [intItems]
    refine h v g tk (fun z => by have := p1 (by rw [hsz]; exact z); rw [hsz] at this; exact this) (fun z => p2 (by rw [hsz]; exact z)) (old_kept (l := l) fun b o hb e => ?_)
    exact keep b o hb (Nat.ne_of_lt (Heap.lt_size e)) (Heap.get?_push_of_some _ e)
end
theorem rawD {prog : Program} {w : World} {A : Around} {E : Value → Shared → Prop} {s : Shared} {l : Addr} {its : List Value} {ns : List Int} {z : Int} {t : Tok} {Q : Value → Shared → Prop} (hh : A.handled = none) (hl : s.heap.IsList l its.toArray) (hi : IntsAre its ns)
    (h : ∀ (g : Heap) (tk : Nat) (m : Int) (t' : Tok), (∀ b o, s.heap.get? b = some o → g.get? b = some o) → (ns = [] → m = z) → (ns ≠ [] → m ∈ ns ∧ ∀ y ∈ ns, m ≤ y) → Q (.int m t') { s with heap := g, toks := tk }) :
    wpAny (model prog w) A (call (.builtin "min") [.ref l] (kwD (.int z t))) Q E s := by
  obtain ⟨xs, e⟩ := hi.allInts.items
  have hn : numsOf (intItems xs).toList = ns := by rw [← e]; exact hi.numsOf
  rw [PySem.nums_intItems] at hn
  subst hn
  rw [e] at hl
  refine callD hh hl fun v g tk p1 p2 keep => ?_
  by_cases c : 0 < xs.size
  · obtain ⟨u, rfl⟩ := intItems_at (p1 c)
    obtain ⟨a1, a2⟩ := argBest_lt (numAt xs) (xs.size - 1)
    refine h g tk _ u keep (fun z => ?_) fun _ => ⟨?_, fun y hy => ?_⟩
    · have q : xs.size = 0 := by simpa using congrArg List.length z
      omega
    · rw [PySem.numAt_eq]
      refine PySem.getD_mem ?_
      rw [List.length_map, Array.length_toList]
      exact Nat.lt_of_le_of_lt a1 (by omega)
    · obtain ⟨j, hj, rfl⟩ := PySem.mem_getD hy
      rw [List.length_map, Array.length_toList] at hj
      rw [← PySem.numAt_eq]
      exact a2 j (by omega)
  · rw [p2 (by omega)]
    refine h g tk z t keep (fun _ => rfl) fun q => absurd ?_ q
    have : xs = #[] := Array.eq_empty_of_size_eq_zero (by omega)
    rw [this]
    rfl
end MinD
namespace Bx
open PySem PySem.Spec PyProof.Rows L2
def rMinD (K : PySem.W.Frag) : List V → List V → Hp → VK → Prop := fun xs zs H Q => ∃ (a : Addr) (ns : List Int) (z : Int), xs = [.ref a] ∧ zs = [.int z] ∧ SqL K H a (ns.map V.int) ∧
  ∀ m, (ns = [] → m = z) → (ns ≠ [] → m ∈ ns ∧ ∀ y ∈ ns, m ≤ y) → Q (.int m) H
theorem call_minD {X : Cx} {K : PySem.W.Frag} (h : X.K = K) (hc : X.calm = true) : CallRK X (.builtin "min") ["default"] (rMinD K) := by
  subst h
  intro pins s σ H xs zs us ws Q I r r2 hw
  obtain ⟨a, ns, z, rfl, rfl, hs, q⟩ := hw
  obtain ⟨its, rv, hl, _⟩ := I.list hs
  rw [Vals.ref1 r]
  obtain ⟨u, rfl, ru⟩ := vals1 r2
  obtain ⟨t, rfl⟩ := ru
  exact MinD.rawD (I.ok.hd hc) hl.isList rv.ints fun g tk m t' hk h1 h2 => ⟨.int m, H, I.kept hk, ⟨_, rfl⟩, q m h1 h2⟩
end Bx
namespace Bx
open PySem PySem.Spec PyProof.Rows L2
/-! ### rules over the written part by its name -/
section
variable {X : Cx} {K : PySem.W.Frag}
theorem ix_tupK (h : X.K = K) : IxR X (rIxT K) := h ▸ ix_tup
theorem ix_listK (h : X.K = K) : IxR X (rIxL K) := h ▸ ix_list
theorem ix_seqK (h : X.K = K) : IxR X (rIx K) := h ▸ ix_seq
def rLen (K : PySem.W.Frag) : List V → Hp → VK → Prop := fun xs H Q => ∃ (p : Addr) (ys : List V), xs = [.ref p] ∧ (SqL K H p ys ∨ SqT K H p ys) ∧ Q (.int ys.length) H
theorem call_lenK (h : X.K = K) : CallR X (.builtin "len") (rLen K) := by
  subst h
  exact call_len_seq
def rTupOf (K : PySem.W.Frag) : List V → Hp → VK → Prop := fun xs H Q => ∃ (p : Addr) (ys : List V), xs = [.ref p] ∧ ((SqL K H p ys ∧ ∀ l, H l = none → Q (.ref l) (upd H l (.tup ys))) ∨ (SqT K H p ys ∧ Q (.ref p) H))
theorem call_tuple_ofK (h : X.K = K) : CallR X (.type "tuple") (rTupOf K) := by
  subst h
  exact call_tuple_of
def rLstOf (K : PySem.W.Frag) : List V → Hp → VK → Prop := fun xs H Q => ∃ (p : Addr) (ys : List V), xs = [.ref p] ∧ (SqL K H p ys ∨ SqT K H p ys) ∧ ∀ l, H l = none → Q (.ref l) (upd H l (.lst ys))
theorem call_list_ofK (h : X.K = K) : CallR X (.type "list") (rLstOf K) := by
  subst h
  exact call_list_of
end
end Bx
/-! ### heaps: what one list at d may lose, all else as it was -/
namespace Bx
open PySem PySem.Spec PyProof.Rows L2
def Kp (d : Addr) (H H' : Hp) : Prop := ∀ b o, b ≠ d → H b = some o → H' b = some o
theorem Kp.refl (d : Addr) (H : Hp) : Kp d H H := fun _ _ _ h => h
theorem Kp.trans {d : Addr} {H H1 H2 : Hp} (a : Kp d H H1) (b : Kp d H1 H2) : Kp d H H2 := fun c o n h => b c o n (a c o n h)
theorem Same.kp {d : Addr} {H H' : Hp} (s : Same H H') : Kp d H H' := fun b o _ h => s b o h
theorem Kp.own {d : Addr} {H : Hp} {o : HO} : Kp d H (upd H d o) := fun b _ n h => by rw [upd_ne n]; exact h
theorem same_new {H : Hp} {p : Addr} {o : HO} (h : H p = none) : Same H (upd H p o) := fun b x e => by
  rw [upd_ne (ne_of_none e h)]
  exact e
theorem Kp.new {d p : Addr} {H : Hp} {o : HO} (h : H p = none) : Kp d H (upd H p o) := Same.kp (same_new h)
theorem upd_self {H : Hp} {d : Addr} {o : HO} (h : H d = some o) : upd H d o = H := by
  funext b
  by_cases e : b = d
  · rw [e, upd_same, h]
  · rw [upd_ne e]
/-- a list of ints at d -/
def Ints (H : Hp) (d : Addr) (xs : List Int) : Prop := H d = some (.lst (xs.map V.int))
/-- the draws: some list of ints -/
def Drw (H : Hp) (d : Addr) : Prop := ∃ ds : List Int, H d = some (.lst (ds.map V.int))
theorem Drw.new {H : Hp} {d p : Addr} {o : HO} (h : Drw H d) (n : H p = none) : Drw (upd H p o) d := by
  obtain ⟨ds, e⟩ := h
  exact ⟨ds, same_new n _ _ e⟩
theorem Drw.own {H : Hp} {d : Addr} {ds : List Int} : Drw (upd H d (.lst (ds.map V.int))) d := ⟨ds, upd_same⟩
theorem Drw.same {H H' : Hp} {d : Addr} (h : Drw H d) (s : Same H H') : Drw H' d := by
  obtain ⟨ds, e⟩ := h
  exact ⟨ds, s _ _ e⟩
/-- a tuple of ints -/
def TupI (H : Hp) (a : Addr) (xs : List Int) : Prop := H a = some (.tup (xs.map V.int))
theorem Drw.ne_tup {H : Hp} {d a : Addr} {xs : List V} (h : Drw H d) (e : H a = some (.tup xs)) : a ≠ d := by
  obtain ⟨ds, e2⟩ := h
  exact ne_of e e2 (by intro z; cases z)
/-- a lasso: a pair of tuples of ints -/
def Las (H : Hp) (p : Addr) (h l : List Int) : Prop := ∃ a b, H p = some (.tup [.ref a, .ref b]) ∧ H a = some (.tup (h.map V.int)) ∧ H b = some (.tup (l.map V.int))
theorem Las.keep {H H' : Hp} {d p : Addr} {h l : List Int} (k : Kp d H H') (w : Drw H d) (x : Las H p h l) : Las H' p h l := by
  obtain ⟨a, b, e1, e2, e3⟩ := x
  exact ⟨a, b, k _ _ (w.ne_tup e1) e1, k _ _ (w.ne_tup e2) e2, k _ _ (w.ne_tup e3) e3⟩
theorem Las.same {H H' : Hp} {p : Addr} {h l : List Int} (k : Same H H') (x : Las H p h l) : Las H' p h l := by
  obtain ⟨a, b, e1, e2, e3⟩ := x
  exact ⟨a, b, k _ _ e1, k _ _ e2, k _ _ e3⟩
theorem lenI {xs : List Int} (h : xs.length ≤ 1000000) : (xs.map V.int).length < sizeLine := by
  rw [List.length_map]
  exact Nat.lt_of_le_of_lt h (by decide)
theorem ixN_at {n j : Nat} (h : j < n) : ixN n (j : Int) = some j := by
  unfold ixN
  rw [if_pos (by omega), if_pos (by omega)]
  rfl
theorem set_mapI {xs : List Int} {j : Nat} {v : Int} : (xs.map V.int).set j (.int v) = (xs.set j v).map V.int := by rw [List.map_set]
/-- a list or a tuple of ints -/
def SeqI (H : Hp) (a : Addr) (xs : List Int) : Prop := H a = some (.lst (xs.map V.int)) ∨ H a = some (.tup (xs.map V.int))
theorem SeqI.sq {K : PySem.W.Frag} {H : Hp} {a : Addr} {xs : List Int} (h : SeqI H a xs) : SqL K H a (xs.map V.int) ∨ SqT K H a (xs.map V.int) := by
  rcases h with h | h
  · exact .inl (.of h)
  · exact .inr (.of h)
theorem SeqI.same {H H' : Hp} {a : Addr} {xs : List Int} (k : Same H H') (h : SeqI H a xs) : SeqI H' a xs := by
  rcases h with h | h
  · exact .inl (k _ _ h)
  · exact .inr (k _ _ h)
/-- a pair of lists or tuples of ints -/
def Pr (H : Hp) (p : Addr) (h l : List Int) : Prop := ∃ a b, H p = some (.tup [.ref a, .ref b]) ∧ SeqI H a h ∧ SeqI H b l
theorem Las.pr {H : Hp} {p : Addr} {h l : List Int} (x : Las H p h l) : Pr H p h l := by
  obtain ⟨a, b, e1, e2, e3⟩ := x
  exact ⟨a, b, e1, .inr e2, .inr e3⟩
theorem Pr.same {H H' : Hp} {p : Addr} {h l : List Int} (k : Same H H') (x : Pr H p h l) : Pr H' p h l := by
  obtain ⟨a, b, e1, e2, e3⟩ := x
  exact ⟨a, b, k _ _ e1, e2.same k, e3.same k⟩
/-- an item -/
theorem ixq {K : PySem.W.Frag} {H : Hp} {a : Addr} {xs : List Int} {i : Int} {j : Nat} {v : V} {Q : VK} (h : SeqI H a xs) (ei : i = (j : Int)) (e : (xs.map V.int)[j]? = some v) (q : Q v H) : rIx K (.ref a) (.int i) H Q := by
  subst ei
  rcases h with h | h
  · exact .inl ⟨_, _, _, _, rfl, rfl, .of h, atI_nat e, q⟩
  · exact .inr (.inl ⟨_, _, _, _, rfl, rfl, .of h, atI_nat e, q⟩)
theorem ixq_last {K : PySem.W.Frag} {H : Hp} {a : Addr} {xs : List Int} {z : Int} {Q : VK} (h : SeqI H a xs) (e : xs.getLast? = some z) (q : Q (.int z) H) : rIx K (.ref a) (.int (-1)) H Q := by
  obtain ⟨ys, rfl⟩ := List.getLast?_eq_some_iff.mp e
  have g : atI ((ys ++ [z]).map V.int) (-1) = some (.int z) := by
    rw [List.map_append]
    exact atI_last _ _
  rcases h with h | h
  · exact .inl ⟨_, _, _, _, rfl, rfl, .of h, g, q⟩
  · exact .inr (.inl ⟨_, _, _, _, rfl, rfl, .of h, g, q⟩)
theorem at_map {xs : List Int} {j : Nat} (h : j < xs.length) : (xs.map V.int)[j]? = some (.int (xs.getD j 0)) := by
  rw [List.getElem?_map, List.getElem?_eq_getElem h, List.getD_eq_getElem?_getD, List.getElem?_eq_getElem h]
  rfl
/-! slices -/
section
variable {X : Cx} {K : PySem.W.Frag}
def rSlQ (K : PySem.W.Frag) : V → Option Int → Option Int → Hp → VK → Prop := fun x lo hi H Q => rSlL K x lo hi H Q ∨ rSlA K x lo hi H Q
theorem sl_seqK (h : X.K = K) : SlR X (rSlQ K) := by
  subst h
  exact sl_list.or sl_tupA
theorem sl_tupK (h : X.K = K) : SlR X (rSlA K) := by
  subst h
  exact sl_tupA
theorem sl_listK (h : X.K = K) : SlR X (rSlL K) := by
  subst h
  exact sl_list
theorem op_catK (h : X.K = K) : OpR X (binaryOp .Add) (rCatA K) := by
  subst h
  exact op_catA
theorem op_repTK (h : X.K = K) : OpR X (binaryOp .Mult) (rRepT K) := by
  subst h
  exact op_repT
theorem op_eqDK (h : X.K = K) (hu : X.A.units + 64 < cLine) : OpR X (compareOp .Eq) (rEqD K) := by
  subst h
  exact op_eqD hu
theorem op_neDK (h : X.K = K) (hu : X.A.units + 64 < cLine) : OpR X (compareOp .NotEq) (rNeD K) := by
  subst h
  exact op_neD hu
theorem call_minK (h : X.K = K) (hc : X.calm = true) : CallR X (.builtin "min") (rMin K) := by
  subst h
  exact cr_min hc
theorem call_isiK' (h : X.K = K) : CallR X (.builtin "isinstance") (rIsi K) := by
  subst h
  exact call_isi
end
theorem cut_map {xs : List Int} {lo hi : Option Int} : cutV (xs.map V.int) lo hi = ((xs.drop (HT.sIx xs.length 0 lo)).take (HT.sIx xs.length xs.length hi - HT.sIx xs.length 0 lo)).map V.int := by
  unfold cutV
  rw [List.length_map, List.map_take, List.map_drop]
/-- a slice of a tuple -/
theorem slt {K : PySem.W.Frag} {H : Hp} {a : Addr} {xs ys : List Int} {lo hi : Option Int} {Q : VK} (h : TupI H a xs) (e : (xs.drop (HT.sIx xs.length 0 lo)).take (HT.sIx xs.length xs.length hi - HT.sIx xs.length 0 lo) = ys)
    (q : ∀ (H' : Hp) (p : Addr), Same H H' → TupI H' p ys → Q (.ref p) H') : rSlA K (.ref a) lo hi H Q := by
  subst e
  refine ⟨a, _, rfl, .of h, fun w => ?_, fun _ p hp => q _ p (same_new hp) ?_⟩
  · refine q H a (Same.refl H) ?_
    rw [List.length_map] at w
    rw [w.1, w.2, List.drop_zero, Nat.sub_zero, List.take_length]
    exact h
  · unfold TupI
    rw [upd_same, cut_map]
/-- a slice of a list or tuple -/
theorem slq {K : PySem.W.Frag} {H : Hp} {a : Addr} {xs ys : List Int} {lo hi : Option Int} {Q : VK} (h : SeqI H a xs) (e : (xs.drop (HT.sIx xs.length 0 lo)).take (HT.sIx xs.length xs.length hi - HT.sIx xs.length 0 lo) = ys)
    (q : ∀ (H' : Hp) (p : Addr), Same H H' → SeqI H' p ys → Q (.ref p) H') : rSlQ K (.ref a) lo hi H Q := by
  rcases h with h | h
  · subst e
    refine .inl ⟨a, _, rfl, .of h, fun p hp => q _ p (same_new hp) (.inl ?_)⟩
    rw [upd_same, cut_map]
  · exact .inr (slt h e fun H' p s t => q H' p s (.inr t))
theorem cut_to (xs : List Int) (n : Nat) : (xs.drop (HT.sIx xs.length 0 none)).take (HT.sIx xs.length xs.length (some (n : Int)) - HT.sIx xs.length 0 none) = xs.take n := by
  rw [HT.sIx_none, HT.sIx_nat, List.drop_zero, Nat.sub_zero]
  rcases Nat.le_total n xs.length with c | c
  · rw [Nat.min_eq_left c]
  · rw [Nat.min_eq_right c, List.take_length, List.take_of_length_le c]
theorem cut_from (xs : List Int) {n : Nat} (hn : n ≤ xs.length) : (xs.drop (HT.sIx xs.length 0 (some (n : Int)))).take (HT.sIx xs.length xs.length none - HT.sIx xs.length 0 (some (n : Int))) = xs.drop n := by
  rw [HT.sIx_none, HT.sIx_nat, Nat.min_eq_left hn]
  exact List.take_of_length_le (by rw [List.length_drop]; exact Nat.le_refl _)
theorem slt_to {K : PySem.W.Frag} {H : Hp} {a : Addr} {xs : List Int} {k : Int} {n : Nat} {Q : VK} (h : TupI H a xs) (ek : k = (n : Int))
    (q : ∀ (H' : Hp) (p : Addr), Same H H' → TupI H' p (xs.take n) → Q (.ref p) H') : rSlA K (.ref a) none (some k) H Q := by
  subst ek
  exact slt h (cut_to xs n) q
theorem slt_from {K : PySem.W.Frag} {H : Hp} {a : Addr} {xs : List Int} {k : Int} {n : Nat} {Q : VK} (h : TupI H a xs) (ek : k = (n : Int)) (hn : n ≤ xs.length)
    (q : ∀ (H' : Hp) (p : Addr), Same H H' → TupI H' p (xs.drop n) → Q (.ref p) H') : rSlA K (.ref a) (some k) none H Q := by
  subst ek
  exact slt h (cut_from xs hn) q
theorem slq_to {K : PySem.W.Frag} {H : Hp} {a : Addr} {xs : List Int} {k : Int} {n : Nat} {Q : VK} (h : SeqI H a xs) (ek : k = (n : Int))
    (q : ∀ (H' : Hp) (p : Addr), Same H H' → SeqI H' p (xs.take n) → Q (.ref p) H') : rSlQ K (.ref a) none (some k) H Q := by
  subst ek
  exact slq h (cut_to xs n) q
theorem slq_mid {K : PySem.W.Frag} {H : Hp} {a : Addr} {xs : List Int} {k k2 : Int} {n m : Nat} {Q : VK} (h : SeqI H a xs) (ek : k = (n : Int)) (ek2 : k2 = (m : Int)) (hn : n ≤ xs.length) (hm : m ≤ xs.length)
    (q : ∀ (H' : Hp) (p : Addr), Same H H' → SeqI H' p ((xs.drop n).take (m - n)) → Q (.ref p) H') : rSlQ K (.ref a) (some k) (some k2) H Q := by
  subst ek
  subst ek2
  refine slq h ?_ q
  rw [HT.sIx_nat, HT.sIx_nat, Nat.min_eq_left hn, Nat.min_eq_left hm]
/-- tuple(x) -/
theorem tupq {K : PySem.W.Frag} {H : Hp} {a : Addr} {xs : List Int} {Q : VK} (h : SeqI H a xs) (q : ∀ (H' : Hp) (p : Addr), Same H H' → TupI H' p xs → Q (.ref p) H') : rTupOf K [.ref a] H Q := by
  rcases h with h | h
  · exact ⟨a, _, rfl, .inl ⟨.of h, fun p hp => q _ p (same_new hp) upd_same⟩⟩
  · exact ⟨a, _, rfl, .inr ⟨.of h, q H a (Same.refl H) h⟩⟩
/-- x + y of tuples -/
theorem catq {K : PySem.W.Frag} {H : Hp} {a b : Addr} {xs ys : List Int} {Q : VK} (h : TupI H a xs) (g : TupI H b ys) (hl : xs.length + ys.length ≤ 1000000) (q : ∀ (H' : Hp) (p : Addr), Same H H' → TupI H' p (xs ++ ys) → Q (.ref p) H') : rCatA K (.ref a) (.ref b) H Q := by
  refine ⟨a, b, _, _, rfl, rfl, .of h, .of g, ?_, fun z => ?_, fun _ z => ?_, fun _ _ p hp => ?_⟩
  · rw [List.length_map, List.length_map]
    exact Nat.le_trans hl (by decide)
  · have e : xs = [] := List.map_eq_nil_iff.mp z
    refine q H b (Same.refl H) ?_
    rw [e]
    exact g
  · have e : ys = [] := List.map_eq_nil_iff.mp z
    refine q H a (Same.refl H) ?_
    rw [e, List.append_nil]
    exact h
  · refine q _ p (same_new hp) ?_
    unfold TupI
    rw [upd_same, List.map_append]
/-- a slice of a list -/
theorem sll_from {K : PySem.W.Frag} {H : Hp} {a : Addr} {xs : List Int} {k : Int} {n : Nat} {Q : VK} (h : H a = some (.lst (xs.map V.int))) (ek : k = (n : Int)) (hn : n ≤ xs.length)
    (q : ∀ p, H p = none → Q (.ref p) (upd H p (.lst ((xs.drop n).map V.int)))) : rSlL K (.ref a) (some k) none H Q := by
  subst ek
  refine ⟨a, _, rfl, .of h, fun p hp => ?_⟩
  rw [cut_map, cut_from xs hn]
  exact q p hp
theorem sll_to {K : PySem.W.Frag} {H : Hp} {a : Addr} {xs : List Int} {k : Int} {n : Nat} {Q : VK} (h : H a = some (.lst (xs.map V.int))) (ek : k = (n : Int))
    (q : ∀ p, H p = none → Q (.ref p) (upd H p (.lst ((xs.take n).map V.int)))) : rSlL K (.ref a) none (some k) H Q := by
  subst ek
  refine ⟨a, _, rfl, .of h, fun p hp => ?_⟩
  rw [cut_map, cut_to xs n]
  exact q p hp
/-! == of data -/
theorem eqvAll_int : ∀ xs ys : List Int, PyData.eqvAll (xs.map PyData.int) (ys.map PyData.int) = decide (xs = ys)
  | [], [] => by simp [PyData.eqvAll]
  | [], y :: ys => by simp [PyData.eqvAll]
  | x :: xs, [] => by simp [PyData.eqvAll]
  | x :: xs, y :: ys => by
    rw [List.map_cons, List.map_cons, PyData.eqvAll, eqvAll_int xs ys, PyData.eqv]
    by_cases c : x = y
    · by_cases d : xs = ys
      · simp [c, d]
      · simp [c, d]
    · simp [c]
theorem eqv_tup (xs ys : List Int) : PyData.eqv (.tuple (xs.map PyData.int)) (.tuple (ys.map PyData.int)) = decide (xs = ys) := by
  rw [PyData.eqv]
  exact eqvAll_int xs ys
theorem eqv_lst (xs ys : List Int) : PyData.eqv (.list (xs.map PyData.int)) (.list (ys.map PyData.int)) = decide (xs = ys) := by
  rw [PyData.eqv]
  exact eqvAll_int xs ys
theorem layAll : ∀ xs : List Int, PyData.canLayAll0 (xs.map PyData.int) = true
  | [] => rfl
  | x :: xs => by
    rw [List.map_cons, PyData.canLayAll0, layAll xs]
    rfl
theorem depAll : ∀ xs : List Int, PyData.depthAll (xs.map PyData.int) = 0
  | [] => by simp [PyData.depthAll]
  | x :: xs => by
    rw [List.map_cons, PyData.depthAll, depAll xs]
    simp [PyData.depth]
theorem shaped_tup (xs : List Int) : SeqAt.shaped (.tuple (xs.map PyData.int)) = true := by
  unfold SeqAt.shaped
  rw [PyData.canLay0, layAll, PyData.depth, depAll]
  rfl
theorem shaped_lst (xs : List Int) : SeqAt.shaped (.list (xs.map PyData.int)) = true := by
  unfold SeqAt.shaped
  rw [PyData.canLay0, layAll, PyData.depth, depAll]
  rfl
theorem dpAll_int {K : PySem.W.Frag} {H : Hp} : ∀ xs : List Int, DpAll K H (xs.map V.int) (xs.map PyData.int)
  | [] => .nil
  | x :: xs => .cons (.int x) (dpAll_int xs)
theorem dp_lst {K : PySem.W.Frag} {H : Hp} {a : Addr} {xs : List Int} (h : H a = some (.lst (xs.map V.int))) : Dp K H (.ref a) (.list (xs.map PyData.int)) := .lst (.of h) (dpAll_int xs)
theorem dp_tup {K : PySem.W.Frag} {H : Hp} {a : Addr} {xs : List Int} (h : TupI H a xs) : Dp K H (.ref a) (.tuple (xs.map PyData.int)) := .tup (.of h) (dpAll_int xs)
theorem ite_ne {x y : Int} {A B : Prop} (h1 : x ≠ y → A) (h2 : x = y → B) : if (!decide (V.int x = V.int y)) = true then A else B := by
  by_cases c : x = y
  · rw [c, decide_eq_true rfl]
    exact iteF (h2 c)
  · rw [decide_eq_false (fun z => c (V.int.inj z))]
    exact iteT (h1 c)
theorem ite_eq {x y : Int} {A B : Prop} (h1 : x = y → A) (h2 : x ≠ y → B) : if decide (V.int x = V.int y) = true then A else B := by
  by_cases c : x = y
  · rw [c, decide_eq_true rfl]
    exact iteT (h1 c)
  · rw [decide_eq_false (fun z => c (V.int.inj z))]
    exact iteF (h2 c)
theorem ite_lt {x y : Int} {A B : Prop} (h1 : x < y → A) (h2 : y ≤ x → B) : if decide (x < y) = true then A else B := by
  by_cases c : x < y
  · rw [decide_eq_true c]
    exact iteT (h1 c)
  · rw [decide_eq_false c]
    exact iteF (h2 (by omega))
/-! ### the letters of a word -/
def wat (h l : List Int) (t : Nat) : Int := if t < h.length then h.getD t 0 else l.getD ((t - h.length) % l.length) 0
theorem wat_head {h l : List Int} {t : Nat} (c : t < h.length) : (h.map V.int)[t]? = some (.int (wat h l t)) := by
  unfold wat
  rw [if_pos c, List.getElem?_map, List.getElem?_eq_getElem c, List.getD_eq_getElem?_getD, List.getElem?_eq_getElem c]
  rfl
theorem wat_loop {h l : List Int} {t : Nat} (c : ¬ t < h.length) (n : l ≠ []) : (l.map V.int)[(t - h.length) % l.length]? = some (.int (wat h l t)) := by
  have hl : 0 < l.length := List.length_pos_iff.mpr n
  have c2 : (t - h.length) % l.length < l.length := Nat.mod_lt _ hl
  unfold wat
  rw [if_neg c, List.getElem?_map, List.getElem?_eq_getElem c2, List.getD_eq_getElem?_getD, List.getElem?_eq_getElem c2]
  rfl
theorem ix_mod {t n m : Nat} (h : n ≤ t) : ((t : Int) - (n : Int)) % (m : Int) = (((t - n) % m : Nat) : Int) := by
  have e : ((t : Int) - (n : Int)) = ((t - n : Nat) : Int) := by omega
  rw [e]
  rfl
/-! ### promises of the helpers -/
def spTake : Sp := fun vs H Q _ => ∃ (d : Addr) (n : Int), vs = [.ref d, .int n] ∧ Drw H d ∧ 0 < n ∧
  ∀ (r : Int) (ds : List Int), 0 ≤ r → r < n → Q (.int r) (upd H d (.lst (ds.map V.int)))
def spDraws (K : PySem.W.Frag) : Sp := fun vs H Q _ => ∃ (a : Addr) (ns : List Int) (c : Nat), vs = [.ref a, .int c] ∧ SqL K H a (ns.map V.int) ∧ c ≤ 1000 ∧
  ∀ (H' : Hp) (d : Addr), Same H H' → H d = none → Drw H' d → Q (.ref d) H'
def spAt : Sp := fun vs H Q _ => ∃ (p : Addr) (h l : List Int) (t : Nat), vs = [.ref p, .int t] ∧ Pr H p h l ∧ l ≠ [] ∧ Q (.int (wat h l t)) H
def spLasso : Sp := fun vs H Q _ => ∃ (d : Addr) (n : Int) (m : Nat), vs = [.ref d, .int n, .int m] ∧ Drw H d ∧ 0 < n ∧ 0 < m ∧ m ≤ 1000 ∧
  ∀ (H' : Hp) (p : Addr) (h l : List Int), Kp d H H' → Drw H' d → Las H' p h l → h.length ≤ m → l ≠ [] → l.length ≤ m → (∀ x ∈ h, 0 ≤ x ∧ x < n) → (∀ x ∈ l, 0 ≤ x ∧ x < n) → Q (.ref p) H'
/-- v says where f and g first differ below n -/
def IsDiff (f g : Nat → Int) (n : Nat) (v : V) : Prop := (v = .non ∧ ∀ t < n, f t = g t) ∨ ∃ t, t < n ∧ v = .int (t : Nat) ∧ f t ≠ g t ∧ ∀ s < t, f s = g s
theorem IsDiff.uniq {f g : Nat → Int} {n : Nat} {v u : V} (a : IsDiff f g n v) (b : IsDiff f g n u) : v = u := by
  rcases a with ⟨rfl, a⟩ | ⟨t, ht, rfl, a1, a2⟩
  · rcases b with ⟨rfl, b⟩ | ⟨s, hs, rfl, b1, b2⟩
    · rfl
    · exact absurd (a s hs) b1
  · rcases b with ⟨rfl, b⟩ | ⟨s, hs, rfl, b1, b2⟩
    · exact absurd (b t ht) a1
    · rcases Nat.lt_trichotomy t s with c | c | c
      · exact absurd (b2 t c) a1
      · rw [c]
      · exact absurd (a2 s c) b1
theorem IsDiff.swap {f g : Nat → Int} {n : Nat} {v : V} (a : IsDiff f g n v) : IsDiff g f n v := by
  rcases a with ⟨rfl, a⟩ | ⟨t, ht, rfl, a1, a2⟩
  · exact .inl ⟨rfl, fun t h => (a t h).symm⟩
  · exact .inr ⟨t, ht, rfl, a1.symm, fun s h => (a2 s h).symm⟩
def dfn (h1 l1 h2 l2 : List Int) : Nat := max h1.length h2.length + l1.length + l2.length
def spFd : Sp := fun vs H Q _ => ∃ (p q : Addr) (h1 l1 h2 l2 : List Int), vs = [.ref p, .ref q] ∧ Las H p h1 l1 ∧ Las H q h2 l2 ∧ l1 ≠ [] ∧ l2 ≠ [] ∧ dfn h1 l1 h2 l2 ≤ 1000000 ∧
  ∀ v, IsDiff (wat h1 l1) (wat h2 l2) (dfn h1 l1 h2 l2) v → Q v H
theorem max_if (a b : Nat) : (if ((b : Nat) : Int) > (a : Int) then (b : Int) else (a : Int)) = ((max a b : Nat) : Int) := by
  by_cases h : ((b : Nat) : Int) > (a : Int)
  · rw [if_pos h]
    omega
  · rw [if_neg h]
    omega
/-- the letters of a list, by places -/
def lw (l : List Int) : Nat → Int := fun i => l.getD i 0
def spPeriod : Sp := fun vs H Q _ => ∃ (a : Addr) (l : List Int), vs = [.ref a] ∧ SeqI H a l ∧ l ≠ [] ∧ l.length ≤ 1000000 ∧
  ∀ (H' : Hp) (r : Nat), Same H H' → Wd.Least (lw l) l.length r → Q (.int r) H'
/-- the normal form (h', l') of (h, l) -/
structure Short (h l h' l' : List Int) : Prop where
  ne : l' ≠ []
  same : ∀ t, wat h' l' t = wat h l t
  hl : h'.length ≤ h.length
  ll : l'.length ≤ l.length
  last : h' ≠ [] → h'.getLast? ≠ l'.getLast?
  prim : ∀ p, 0 < p → p < l'.length → p ∣ l'.length → ∃ i, i + p < l'.length ∧ lw l' i ≠ lw l' (i + p)
  memH : ∀ x ∈ h', x ∈ h
  memL : ∀ x ∈ l', x ∈ l
/-- the letter of the repeated word at any whole number of turns from where it begins -/
def bk (l : List Int) (r : Nat) (z : Int) : Int := lw l ((z % (r : Int)).toNat)
def rot (l : List Int) (r c : Nat) : List Int := (l.drop c).take (r - c) ++ l.take c
theorem rot_len {l : List Int} {r c : Nat} (hc : c < r) (hr : r ≤ l.length) : (rot l r c).length = r := by
  unfold rot
  rw [List.length_append, List.length_take, List.length_drop, List.length_take]
  omega
theorem lw_get {l : List Int} {i : Nat} (h : i < l.length) : l[i]? = some (lw l i) := by
  unfold lw
  rw [List.getD_eq_getElem?_getD, List.getElem?_eq_getElem h]
  rfl
theorem lw_of {l : List Int} {i : Nat} {x : Int} (h : l[i]? = some x) : lw l i = x := by
  unfold lw
  rw [List.getD_eq_getElem?_getD, h]
  rfl
theorem rot_at {l : List Int} {r c j : Nat} (hc : c < r) (hr : r ≤ l.length) (hj : j < r) : lw (rot l r c) j = lw l ((j + c) % r) := by
  apply lw_of
  unfold rot
  have e1 : ((l.drop c).take (r - c)).length = r - c := by
    rw [List.length_take, List.length_drop]
    omega
  rcases Nat.lt_or_ge j (r - c) with h | h
  · rw [List.getElem?_append_left (by rw [e1]; exact h), List.getElem?_take, if_pos h, List.getElem?_drop, Nat.mod_eq_of_lt (by omega), Nat.add_comm c j]
    exact lw_get (by omega)
  · rw [List.getElem?_append_right (by rw [e1]; exact h), e1, List.getElem?_take, if_pos (by omega)]
    have e2 : (j + c) % r = j - (r - c) := by
      rw [Nat.mod_eq_sub_mod (by omega), Nat.mod_eq_of_lt (by omega)]
      omega
    rw [e2]
    exact lw_get (by omega)
theorem bk_shift {l : List Int} {r : Nat} {a b z : Int} (h : a = b + r * z) : bk l r a = bk l r b := by
  unfold bk
  rw [h, Int.add_mul_emod_self_left]
theorem bk_nat {l : List Int} {r t : Nat} : bk l r (t : Int) = lw l (t % r) := rfl
theorem least_le {w : Nat → Int} {n r : Nat} (hn : 0 < n) (L : Wd.Least w n r) : r ≤ n := Nat.le_of_dvd hn L.dvd
/-- the letters of l repeated, by the least repetition -/
theorem cyc_least {l : List Int} {r : Nat} (hn : 0 < l.length) (L : Wd.Least (lw l) l.length r) (i : Nat) : lw l (i % l.length) = bk l r (i : Int) := by
  have h1 : Wd.cyc (lw l) l.length i = Wd.cyc (lw l) l.length (i % r) := L.rp.mod
  have h2 : Wd.cyc (lw l) l.length (i % r) = lw l (i % r) := Wd.cyc_lt (Nat.lt_of_lt_of_le (Nat.mod_lt _ L.pos) (least_le hn L))
  rw [bk_nat, ← h2, ← h1]
  rfl
theorem cut_lt {r : Nat} (hr : 0 < r) (z : Int) : (z % (r : Int)).toNat < r := by
  have h1 := Int.emod_nonneg z (show (r : Int) ≠ 0 by omega)
  have h2 := Int.emod_lt_of_pos z (show (0 : Int) < (r : Int) by omega)
  omega
theorem cut_int {r : Nat} (hr : 0 < r) (z : Int) : (((z % (r : Int)).toNat : Nat) : Int) = z - r * (z / r) := by
  have h1 := Int.emod_nonneg z (show (r : Int) ≠ 0 by omega)
  rw [Int.toNat_of_nonneg h1, Int.emod_def]
theorem rot_bk {l : List Int} {r : Nat} (hr0 : 0 < r) (hr : r ≤ l.length) (z : Int) (j : Nat) : lw (rot l r (z % (r : Int)).toNat) (j % r) = bk l r ((j : Int) + z) := by
  rw [rot_at (cut_lt hr0 z) hr (Nat.mod_lt _ hr0), Nat.mod_add_mod]
  have h : bk l r (((j + (z % (r : Int)).toNat : Nat)) : Int) = bk l r ((j : Int) + z) := bk_shift (z := -(z / r)) (by
    rw [Int.natCast_add, cut_int hr0, Int.mul_neg]
    omega)
  rw [← h]
  rfl
theorem short_of {h l : List Int} {r k : Nat} (hne : l ≠ []) (L : Wd.Least (lw l) l.length r) (hk : k ≤ h.length)
    (hB : ∀ t, k ≤ t → t < h.length → lw h t = bk l r ((t : Int) - (h.length : Int))) (hX : k = 0 ∨ lw h (k - 1) ≠ bk l r ((k : Int) - 1 - (h.length : Int))) :
    Short h l (h.take k) (rot l r (((k : Int) - (h.length : Int)) % (r : Int)).toNat) := by
  have hn : 0 < l.length := List.length_pos_iff.mpr hne
  have hr0 := L.pos
  have hr := least_le hn L
  have hlen := rot_len (cut_lt hr0 ((k : Int) - (h.length : Int))) hr
  have htk : (h.take k).length = k := by
    rw [List.length_take]
    omega
  refine ⟨fun z => ?_, fun t => ?_, by rw [htk]; exact hk, by rw [hlen]; exact hr, fun hh => ?_, fun p hp hpl hpd => ?_, fun x hx => List.mem_of_mem_take hx, fun x hx => ?_⟩
  · rw [z] at hlen
    have : (0 : Nat) = r := hlen
    omega
  · unfold wat
    rw [htk, hlen]
    by_cases c : t < k
    · rw [if_pos c, if_pos (by omega), List.getD_eq_getElem?_getD, List.getD_eq_getElem?_getD, List.getElem?_take, if_pos c]
    · rw [if_neg c]
      have e1 := rot_bk (l := l) hr0 hr ((k : Int) - (h.length : Int)) (t - k)
      have e2 : ((t - k : Nat) : Int) + ((k : Int) - (h.length : Int)) = (t : Int) - (h.length : Int) := by omega
      rw [e2] at e1
      show lw _ _ = _
      rw [e1]
      by_cases d : t < h.length
      · rw [if_pos d]
        exact (hB t (by omega) d).symm
      · rw [if_neg d]
        have e3 : (t : Int) - (h.length : Int) = ((t - h.length : Nat) : Int) := by omega
        rw [e3]
        exact (cyc_least hn L _).symm
  · have hk0 : k ≠ 0 := fun z => hh (by rw [z]; rfl)
    rcases hX with z | z
    · exact absurd z hk0
    · rw [List.getLast?_eq_getElem?, List.getLast?_eq_getElem?, htk, hlen]
      rw [List.getElem?_take, if_pos (by omega), lw_get (show k - 1 < h.length by omega), lw_get (show r - 1 < (rot l r _).length by rw [hlen]; omega)]
      intro q
      refine z ?_
      rw [Option.some.inj q]
      have e1 := rot_bk (l := l) hr0 hr ((k : Int) - (h.length : Int)) (r - 1)
      rw [Nat.mod_eq_of_lt (show r - 1 < r by omega)] at e1
      rw [e1]
      exact bk_shift (z := 1) (by omega)
  · rw [hlen] at hpl hpd ⊢
    apply Classical.byContradiction
    intro hno
    have hall : ∀ i, i + p < r → lw (rot l r (((k : Int) - (h.length : Int)) % (r : Int)).toNat) i = lw (rot l r (((k : Int) - (h.length : Int)) % (r : Int)).toNat) (i + p) := fun i hi =>
      Classical.byContradiction fun q => hno ⟨i, hi, q⟩
    have hrp := Wd.rp_of hp hpd hr0 hall
    have key : ∀ i, Wd.cyc (lw l) l.length i = Wd.cyc (lw (rot l r (((k : Int) - (h.length : Int)) % (r : Int)).toNat)) r (i + (r - (((k : Int) - (h.length : Int)) % (r : Int)).toNat)) := by
      intro i
      have hc := cut_lt hr0 ((k : Int) - (h.length : Int))
      have a1 : Wd.cyc (lw l) l.length i = bk l r (i : Int) := cyc_least hn L i
      have a2 := rot_at hc hr (Nat.mod_lt (i + (r - (((k : Int) - (h.length : Int)) % (r : Int)).toNat)) hr0)
      rw [a1]
      show _ = lw _ (_ % r)
      rw [a2, Nat.mod_add_mod, show i + (r - (((k : Int) - (h.length : Int)) % (r : Int)).toNat) + (((k : Int) - (h.length : Int)) % (r : Int)).toNat = i + r by omega, Nat.add_mod_right]
      rfl
    have hR : Wd.Rp (lw l) l.length p := fun i => by
      rw [key, key, Nat.add_right_comm]
      exact hrp _
    have := L.min p hp (Nat.dvd_trans hpd L.dvd) hR
    omega
  · unfold rot at hx
    rcases List.mem_append.mp hx with z | z
    · exact List.mem_of_mem_drop (List.mem_of_mem_take z)
    · exact List.mem_of_mem_take z
theorem rp_mod {w : Nat → Int} {n p q : Nat} (hp : Wd.Rp w n p) (hq : Wd.Rp w n q) : Wd.Rp w n (q % p) := fun i => by
  have a := hp.mul (q / p) (i + q % p)
  rw [Nat.mul_comm, Nat.add_assoc, Nat.mod_add_div] at a
  rw [← a]
  exact hq i
theorem rp_gcd {w : Nat → Int} {n : Nat} (p q : Nat) : Wd.Rp w n p → Wd.Rp w n q → Wd.Rp w n (Nat.gcd p q) := by
  induction p, q using Nat.gcd.induction with
  | H0 q => intro _ hq; rw [Nat.gcd_zero_left]; exact hq
  | H1 p q hp ih => intro h1 h2; rw [Nat.gcd_rec]; exact ih (rp_mod h1 h2) h1
/-- the normal form -/
structure Nrm (h l : List Int) : Prop where
  ne : l ≠ []
  last : h ≠ [] → h.getLast? ≠ l.getLast?
  prim : ∀ p, 0 < p → p < l.length → p ∣ l.length → ∃ i, i + p < l.length ∧ lw l i ≠ lw l (i + p)
theorem Short.nrm {h l h' l' : List Int} (s : Short h l h' l') : Nrm h' l' := ⟨s.ne, s.last, s.prim⟩
theorem Nrm.pos {h l : List Int} (N : Nrm h l) : 0 < l.length := List.length_pos_iff.mpr N.ne
theorem wat_cyc {h l : List Int} {t : Nat} (c : h.length ≤ t) : wat h l t = Wd.cyc (lw l) l.length (t - h.length) := by
  unfold wat
  rw [if_neg (by omega)]
  rfl
/-- every period that the word has from some turn on is a multiple of the loop's length -/
theorem Nrm.dvd {h l : List Int} (N : Nrm h l) {p M : Nat} (hP : ∀ t, M ≤ t → wat h l (t + p) = wat h l t) : l.length ∣ p := by
  have hr := N.pos
  have hRp : Wd.Rp (lw l) l.length p := fun i => by
    have self := Wd.rp_self (lw l) l.length
    have e1 := self.mul M i
    have e2 := self.mul M (i + p)
    have hM : M ≤ M * l.length := Nat.le_mul_of_pos_right M hr
    have q := hP (h.length + (i + M * l.length)) (by omega)
    rw [wat_cyc (by omega), wat_cyc (by omega)] at q
    rw [show h.length + (i + M * l.length) + p - h.length = i + p + M * l.length by omega, show h.length + (i + M * l.length) - h.length = i + M * l.length by omega, e1, e2] at q
    exact q
  have hg := rp_gcd p l.length hRp (Wd.rp_self (lw l) l.length)
  have gd : Nat.gcd p l.length ∣ l.length := Nat.gcd_dvd_right p l.length
  have gp : 0 < Nat.gcd p l.length := Nat.gcd_pos_of_pos_right p hr
  have gl := Nat.le_of_dvd hr gd
  rcases Nat.lt_or_ge (Nat.gcd p l.length) l.length with c | c
  · obtain ⟨i, hi, hne⟩ := N.prim _ gp c gd
    refine absurd ?_ hne
    have := hg i
    rw [Wd.cyc_lt hi, Wd.cyc_lt (by omega)] at this
    exact this.symm
  · have e : Nat.gcd p l.length = l.length := by omega
    rw [← e]
    exact Nat.gcd_dvd_left p l.length
theorem wat_per {h l : List Int} {t : Nat} (c : h.length ≤ t) : wat h l (t + l.length) = wat h l t := by
  rw [wat_cyc c, wat_cyc (by omega), show t + l.length - h.length = (t - h.length) + l.length by omega]
  exact Wd.rp_self (lw l) l.length _
theorem last_at {l : List Int} (n : l ≠ []) : l.getLast? = some (lw l (l.length - 1)) := by
  have := List.length_pos_iff.mpr n
  rw [List.getLast?_eq_getElem?]
  exact lw_get (by omega)
theorem Nrm.head_le {h l g m : List Int} (N : Nrm h l) (hs : ∀ t, wat h l t = wat g m t) (e : l.length = m.length) : h.length ≤ g.length := by
  rcases Nat.lt_or_ge g.length h.length with c | c
  · exfalso
    have hne : h ≠ [] := List.length_pos_iff.mp (by omega)
    refine N.last hne ?_
    rw [last_at hne, last_at N.ne]
    congr 1
    have hp := N.pos
    have a1 : wat h l (h.length - 1) = lw h (h.length - 1) := by
      unfold wat
      rw [if_pos (by omega)]
      rfl
    have a2 : wat h l (h.length - 1 + l.length) = lw l (l.length - 1) := by
      rw [wat_cyc (by omega), show h.length - 1 + l.length - h.length = l.length - 1 by omega, Wd.cyc_lt (by omega)]
    rw [← a1, ← a2, hs, hs, e]
    exact (wat_per (by omega)).symm
  · exact c
theorem Nrm.uniq {h l g m : List Int} (N : Nrm h l) (M : Nrm g m) (hs : ∀ t, wat h l t = wat g m t) : h = g ∧ l = m := by
  have d1 : l.length ∣ m.length := N.dvd (M := g.length) fun t ht => by
    rw [hs, hs]
    exact wat_per ht
  have d2 : m.length ∣ l.length := M.dvd (M := h.length) fun t ht => by
    rw [← hs, ← hs]
    exact wat_per ht
  have e : l.length = m.length := Nat.dvd_antisymm d1 d2
  have e2 : h.length = g.length := Nat.le_antisymm (N.head_le hs e) (M.head_le (fun t => (hs t).symm) e.symm)
  refine ⟨List.ext_getElem e2 fun i h1 h2 => ?_, List.ext_getElem e fun i h1 h2 => ?_⟩
  · have := hs i
    unfold wat at this
    rw [if_pos h1, if_pos h2, List.getD_eq_getElem?_getD, List.getD_eq_getElem?_getD, List.getElem?_eq_getElem h1, List.getElem?_eq_getElem h2] at this
    exact this
  · have := hs (h.length + i)
    rw [wat_cyc (by omega), wat_cyc (by omega), show h.length + i - h.length = i by omega, show h.length + i - g.length = i by omega, Wd.cyc_lt h1, Wd.cyc_lt h2] at this
    have a1 := lw_get h1
    have a2 := lw_get h2
    rw [List.getElem?_eq_getElem h1] at a1
    rw [List.getElem?_eq_getElem h2] at a2
    rw [Option.some.inj a1, Option.some.inj a2, this]
theorem at_last {l : List Int} (n : l ≠ []) : atI (l.map V.int) (-1) = some (.int (lw l (l.length - 1))) := by
  have hp := List.length_pos_iff.mpr n
  have e : l.map V.int = (l.dropLast.map V.int) ++ [.int (l.getLast n)] := by
    rw [← List.map_singleton, ← List.map_append, List.dropLast_concat_getLast]
  rw [e, atI_last]
  have q := last_at n
  rw [List.getLast?_eq_getLast n] at q
  rw [Option.some.inj q]
/-! repetition of a text -/
theorem flat_at {w : List Int} : ∀ (k i : Nat), i < k * w.length → (List.replicate k w).flatten[i]? = w[i % w.length]?
  | 0, i, h => by
    rw [Nat.zero_mul] at h
    exact absurd h (Nat.not_lt_zero i)
  | k + 1, i, h => by
    rw [List.replicate_succ, List.flatten_cons]
    rcases Nat.lt_or_ge i w.length with c | c
    · rw [List.getElem?_append_left c, Nat.mod_eq_of_lt c]
    · rw [List.getElem?_append_right c, flat_at k (i - w.length) (by rw [Nat.succ_mul] at h; omega), ← Nat.mod_eq_sub_mod c]
theorem flat_per {l : List Int} {p k : Nat} (hp : 0 < p) (hpl : p ≤ l.length) (e : l = (List.replicate k (l.take p)).flatten) (hk : k * p = l.length) : ∀ i, i + p < l.length → lw l i = lw l (i + p) := by
  intro i hi
  have el : (l.take p).length = p := by
    rw [List.length_take]
    omega
  have at_ : ∀ j, j < l.length → l[j]? = (l.take p)[j % p]? := fun j hj => by
    have h0 := flat_at (w := l.take p) k j (by rw [el, hk]; exact hj)
    rw [← e, el] at h0
    exact h0
  have h1 := at_ i (by omega)
  have h2 := at_ (i + p) hi
  rw [Nat.add_mod_right, ← h1, lw_get hi, lw_get (show i < l.length by omega)] at h2
  exact (Option.some.inj h2).symm
def spShort : Sp := fun vs H Q _ => ∃ (a b : Addr) (h l : List Int), vs = [.ref a, .ref b] ∧ SeqI H a h ∧ SeqI H b l ∧ l ≠ [] ∧ h.length ≤ 100000 ∧ l.length ≤ 100000 ∧
  ∀ (H' : Hp) (p : Addr) (h' l' : List Int), Same H H' → Las H' p h' l' → Short h l h' l' → Q (.ref p) H'
/-- what suffix hands back -/
def Suf (h l : List Int) (t : Nat) (h' l' : List Int) : Prop := Nrm h' l' ∧ (∀ i, wat h' l' i = wat h l (t + i)) ∧ h'.length ≤ h.length ∧ l'.length ≤ l.length ∧ (∀ x ∈ h', x ∈ h ∨ x ∈ l) ∧ ∀ x ∈ l', x ∈ l
def spSuffix : Sp := fun vs H Q _ => ∃ (p : Addr) (h l : List Int) (t : Nat), vs = [.ref p, .int t] ∧ Las H p h l ∧ l ≠ [] ∧ h.length ≤ 50000 ∧ l.length ≤ 50000 ∧
  ∀ (H' : Hp) (p' : Addr) (h' l' : List Int), Same H H' → Las H' p' h' l' → Suf h l t h' l' → Q (.ref p') H'
def spMake : Sp := fun vs H Q _ => ∃ (a b : Addr) (h l : List Int), vs = [.ref a, .ref b] ∧ H a = some (.lst (h.map V.int)) ∧ H b = some (.lst (l.map V.int)) ∧ l ≠ [] ∧ h.length ≤ 100000 ∧ l.length ≤ 100000 ∧ (∀ x ∈ h, 0 ≤ x) ∧ (∀ x ∈ l, 0 ≤ x) ∧
  ∀ (H' : Hp) (p : Addr) (h' l' : List Int), Same H H' → Las H' p h' l' → Short h l h' l' → Q (.ref p) H'
theorem suf_drop {h l : List Int} {t : Nat} (c : t < h.length) (i : Nat) : wat (h.drop t) l i = wat h l (t + i) := by
  unfold wat
  rw [List.length_drop]
  by_cases d : t + i < h.length
  · rw [if_pos d, if_pos (by omega), List.getD_eq_getElem?_getD, List.getD_eq_getElem?_getD, List.getElem?_drop]
  · rw [if_neg d, if_neg (by omega), show t + i - h.length = i - (h.length - t) by omega]
theorem suf_turn {h l : List Int} {t : Nat} (hn : l ≠ []) (c : h.length ≤ t) (i : Nat) : wat [] (l.drop ((t - h.length) % l.length) ++ l.take ((t - h.length) % l.length)) i = wat h l (t + i) := by
  have hp : 0 < l.length := List.length_pos_iff.mpr hn
  have hc := Nat.mod_lt (t - h.length) hp
  have e : l.drop ((t - h.length) % l.length) ++ l.take ((t - h.length) % l.length) = rot l l.length ((t - h.length) % l.length) := by
    have e3 : (l.drop ((t - h.length) % l.length)).take (l.length - (t - h.length) % l.length) = l.drop ((t - h.length) % l.length) := List.take_of_length_le (by rw [List.length_drop]; exact Nat.le_refl _)
    unfold rot
    rw [e3]
  rw [e, wat_cyc (Nat.zero_le _), wat_cyc (show h.length ≤ t + i by omega), rot_len hc (Nat.le_refl _)]
  show lw _ (_ % _) = lw _ (_ % _)
  rw [rot_at hc (Nat.le_refl _) (Nat.mod_lt _ hp), Nat.mod_add_mod, Nat.add_mod_mod]
  congr 2
  show i - 0 + _ = _
  omega
def spInts : Sp := fun vs H Q _ => ∃ (a : Addr) (xs : List Int) (lo hi : Int), vs = [.ref a, .int lo, .int hi] ∧ TupI H a xs ∧ (∀ x ∈ xs, lo ≤ x ∧ x < hi) ∧ Q (.bl true) H
def spNormal : Sp := fun vs H Q _ => ∃ (p : Addr) (h l : List Int), vs = [.ref p] ∧ Las H p h l ∧ Nrm h l ∧ l.length ≤ 1000 ∧ ∀ H', Same H H' → Q (.bl true) H'
def spIsLasso : Sp := fun vs H Q _ => ∃ (p : Addr) (h l : List Int) (n : Int), vs = [.ref p, .int n] ∧ Las H p h l ∧ Nrm h l ∧ l.length ≤ 1000 ∧ (∀ x ∈ h, 0 ≤ x ∧ x < n) ∧ (∀ x ∈ l, 0 ≤ x ∧ x < n) ∧ ∀ H', Same H H' → Q (.bl true) H'
/-! the same word in other forms -/
theorem wat_mem {h l : List Int} (n : l ≠ []) (t : Nat) : wat h l t ∈ h ∨ wat h l t ∈ l := by
  have hl : 0 < l.length := List.length_pos_iff.mpr n
  unfold wat
  by_cases c : t < h.length
  · rw [if_pos c, List.getD_eq_getElem?_getD, List.getElem?_eq_getElem c]
    exact .inl (List.getElem_mem c)
  · have c2 := Nat.mod_lt (t - h.length) hl
    rw [if_neg c, List.getD_eq_getElem?_getD, List.getElem?_eq_getElem c2]
    exact .inr (List.getElem_mem c2)
theorem range_getD {f : Nat → Int} {n t : Nat} (c : t < n) : ((List.range n).map f).getD t 0 = f t := by
  rw [List.getD_eq_getElem?_getD, List.getElem?_map, List.getElem?_range c]
  rfl
theorem wat_form {h l : List Int} {m k : Nat} (n : l ≠ []) (hk : 0 < k) (t : Nat) :
    wat ((List.range (h.length + m)).map (wat h l)) ((List.range (k * l.length)).map fun t => wat h l (h.length + m + t)) t = wat h l t := by
  have hl : 0 < l.length := List.length_pos_iff.mpr n
  have hkl : 0 < k * l.length := Nat.mul_pos hk hl
  rw [show wat ((List.range (h.length + m)).map (wat h l)) ((List.range (k * l.length)).map fun t => wat h l (h.length + m + t)) t
      = if t < ((List.range (h.length + m)).map (wat h l)).length then ((List.range (h.length + m)).map (wat h l)).getD t 0 else ((List.range (k * l.length)).map fun t => wat h l (h.length + m + t)).getD ((t - ((List.range (h.length + m)).map (wat h l)).length) % ((List.range (k * l.length)).map fun t => wat h l (h.length + m + t)).length) 0 from rfl]
  rw [List.length_map, List.length_range, List.length_map, List.length_range]
  by_cases c : t < h.length + m
  · rw [if_pos c, range_getD c]
  · rw [if_neg c, range_getD (Nat.mod_lt _ hkl), wat_cyc (by omega), wat_cyc (by omega)]
    show lw l (_ % _) = lw l (_ % _)
    congr 1
    have e1 : h.length + m + (t - (h.length + m)) % (k * l.length) - h.length = m + (t - (h.length + m)) % (k * l.length) := by omega
    have e2 : t - h.length = m + (t - (h.length + m)) := by omega
    rw [e1, e2, ← Nat.add_mod_mod, Nat.mod_mod_of_dvd _ ⟨k, Nat.mul_comm k l.length⟩, Nat.add_mod_mod]
theorem wat_front (f h l : List Int) (i : Nat) : wat (f ++ h) l (f.length + i) = wat h l i := by
  unfold wat
  rw [List.length_append]
  by_cases c : i < h.length
  · rw [if_pos c, if_pos (by omega), List.getD_eq_getElem?_getD, List.getD_eq_getElem?_getD, List.getElem?_append_right (by omega), Nat.add_sub_cancel_left]
  · rw [if_neg c, if_neg (by omega), show f.length + i - (f.length + h.length) = i - h.length by omega]
def dLas (h l : List Int) : PyData := .tuple [.tuple (h.map PyData.int), .tuple (l.map PyData.int)]
theorem dp_las {K : PySem.W.Frag} {H : Hp} {p : Addr} {h l : List Int} (x : Las H p h l) : Dp K H (.ref p) (dLas h l) := by
  obtain ⟨a, b, e1, e2, e3⟩ := x
  exact .tup (.of e1) (.cons (dp_tup e2) (.cons (dp_tup e3) .nil))
theorem shaped_las (h l : List Int) : SeqAt.shaped (dLas h l) = true := by
  unfold SeqAt.shaped dLas
  rw [PyData.canLay0, PyData.canLayAll0, PyData.canLayAll0, PyData.canLayAll0, PyData.canLay0, layAll, PyData.canLay0, layAll, PyData.depth, PyData.depthAll, PyData.depthAll, PyData.depthAll, PyData.depth, depAll, PyData.depth, depAll]
  rfl
theorem eqv_las (h l : List Int) : PyData.eqv (dLas h l) (dLas h l) = true := by
  unfold dLas
  rw [PyData.eqv, PyData.eqvAll, PyData.eqvAll, PyData.eqvAll, eqv_tup, eqv_tup]
  simp
def spCell (K : PySem.W.Frag) : Sp := fun vs H Q _ => ∃ (a : Addr) (ns : List Int) (k : Nat), vs = [.ref a, .int k] ∧ SqL K H a (ns.map V.int) ∧ ∀ v : Int, Q (.int v) H
def spNegX (C : Addr) : Sp := fun vs H _ E => ∃ (p : Addr) (t : Int), vs = [.ref p, .int t] ∧ t < 0 ∧ E (.ref C) none H
def spRefuses : Sp := fun vs H Q _ => ∃ (p : Addr) (t : Int), vs = [.ref p, .int t] ∧ t < 0 ∧ Q (.bl true) H
def spSame : Sp := fun vs H Q _ => ∃ (p q : Addr) (h l h2 l2 : List Int), vs = [.ref p, .ref q] ∧ Pr H p h l ∧ Pr H q h2 l2 ∧ l ≠ [] ∧ l2 ≠ [] ∧ dfn h l h2 l2 ≤ 1000000 ∧ (∀ t, wat h l t = wat h2 l2 t) ∧ Q (.bl true) H
def spMakeX (cE cL : Addr) : Sp := fun vs H Q E => ∃ (a b : Addr) (h l : List Int), vs = [.ref a, .ref b] ∧ H a = some (.lst (h.map V.int)) ∧ H b = some (.lst (l.map V.int)) ∧ h.length ≤ 100000 ∧ l.length ≤ 100000 ∧
  (l = [] → E (.ref cE) none H) ∧ (l ≠ [] → (∃ x, (x ∈ h ∨ x ∈ l) ∧ x < 0) → E (.ref cL) none H) ∧
  (l ≠ [] → (∀ x, x ∈ h ∨ x ∈ l → 0 ≤ x) → ∀ (H' : Hp) (p : Addr) (h' l' : List Int), Same H H' → Las H' p h' l' → Short h l h' l' → Q (.ref p) H')
def spOut : Sp := fun vs H Q _ => ∃ (a b : Addr) (h l : List Int), vs = [.ref a, .ref b] ∧ H a = some (.lst (h.map V.int)) ∧ H b = some (.lst (l.map V.int)) ∧ h.length ≤ 100000 ∧ l.length ≤ 100000 ∧
  (l = [] → ∀ (H' : Hp) (p : Addr), Same H H' → H' p = some (.tup [.str "empty", .bl true]) → Q (.ref p) H') ∧
  (l ≠ [] → (∃ x, (x ∈ h ∨ x ∈ l) ∧ x < 0) → ∀ (H' : Hp) (p : Addr), Same H H' → H' p = some (.tup [.str "letter", .bl true]) → Q (.ref p) H') ∧
  (l ≠ [] → (∀ x, x ∈ h ∨ x ∈ l → 0 ≤ x) → ∀ (H' : Hp) (p q : Addr) (h' l' : List Int), Same H H' → H' p = some (.tup [.str "lasso", .ref q]) → Las H' q h' l' → Short h l h' l' → Q (.ref p) H')
theorem neg_cases (h l : List Int) : (∃ x, (x ∈ h ∨ x ∈ l) ∧ x < 0) ∨ ∀ x, x ∈ h ∨ x ∈ l → 0 ≤ x := by
  by_cases c : ∃ x, (x ∈ h ∨ x ∈ l) ∧ x < 0
  · exact .inl c
  · exact .inr fun x hx => by
      rcases Int.lt_or_le x 0 with z | z
      · exact absurd ⟨x, hx, z⟩ c
      · exact z
def spIsInt : Sp := fun vs H Q _ => ∃ (i : Int), vs = [.int i] ∧ Q (.bl true) H
end Bx
/-! ### own errors, two levels below ValueError -/
namespace Bx
open PySem PySem.Spec PyProof.Rows L2
abbrev veB : List Value := [.type "ValueError", .type "Exception", .type "BaseException", .type "object"]
structure ErrC (K : PySem.W.Frag) (mg : Str → Option Value) (x : Str) (C : Addr) : Prop where
  g : mg x = some (.ref C)
  ex : PySem.W.excIn K C veB "ValueError.__new__" = true
  kp : PySem.W.keepIn K (.ref C) = true
  ty : PySem.W.typeIn K (.ref C) = some (.type "type")
  sf : PySem.W.subIn K (.ref C) (.ref C) = some true
  ec : ExcC K C
theorem ErrC.exm {K : PySem.W.Frag} {mg : Str → Option Value} {x : Str} {C : Addr} {cls : Value} {b : Bool} (e : ErrC K mg x C) (h : PySem.W.subIn K cls (.ref C) = some b) : PySem.W.exmOne K cls (.ref C) = some b := PySem.W.exm_ref e.ec.hs e.ec.hd e.ty h
theorem ErrC.me {K : PySem.W.Frag} {mg : Str → Option Value} {x : Str} {C : Addr} (e : ErrC K mg x C) : PySem.W.exmOne K (.ref C) (.ref C) = some true := e.exm e.sf
/-- raise X('..') -/
theorem ErrC.made {X : Cx} {C : Addr} {x m : Str} {j : Nat} {p p2 pos : Pos} (e : ErrC X.K X.mg x C) (hg : Gl X x) (hd : (x == ("__debug__" : Str)) = false := by decide) : PMk X (.Call (.Name x p) [.Constant (.str m) j p2] [] pos) (fun _ H Q => Q (.ref C) none H) :=
  pmk_own PySem.F.excBase_ValueError e.ex e.g e.kp (raises_own e.ec.hs e.ty) hg hd
/-- isinstance(e, c), e the exception that the suite holds -/
def rIsEx (K : PySem.W.Frag) (a : Addr) (cls : Value) (d : Option Addr) : List V → Hp → VK → Prop := fun xs H Q => ∃ D : Addr, cls = .ref D ∧ d = none ∧ ExcC K D ∧ rIsE K D a xs H Q
theorem call_isEx {X : Cx} {K : PySem.W.Frag} {a : Addr} {cls : Value} {d : Option Addr} {oe : Obj} {pn : List (Addr × Obj)} (h : X.K = K) (hz : Zc cls d oe) (hf : ∃ vs, oe.data = .fields vs) : CallR (X.suite a ((a, oe) :: pn)) (.builtin "isinstance") (rIsEx K a cls d) := by
  subst h
  intro pins s σ H xs us Q I r hw
  obtain ⟨D, rfl, rfl, C, hw⟩ := hw
  exact call_isE C hz hf pins s σ H xs us Q I r hw
/-- a def that may raise, by its name -/
structure CalX (P : Program) (w : World) (K : PySem.W.Frag) (mg : Str → Option Value) (base : Heap) (k : Nat) (x : Str) (sp : Sp) : Prop where
  ex : ∃ (f : Addr) (fd : FuncData) (ps : List Str), FnOk P w K mg base (L2.CX P w) k f fd ps sp ∧ mg x = some (.ref f) ∧ PySem.W.keepIn K (.ref f) = true ∧ Binds K fd ps []
theorem pe_cx {X : Cx} {k j : Nat} {x : Str} {sp : Sp} {W : WX} {p pos : Pos} {e : Expr} {es : List Expr} {t : TA} (c : CalX X.prog X.w X.K X.mg X.base k x sp) (hr : Room j X.A) (hk : k ≤ j) (tk : Takes X W) (hg : Gl X x) (ha : PA X (e :: es) t)
    (hdb : (x == ("__debug__" : Str)) = false := by decide) (he : starEach (e :: es) X.env = (false, eval e X.env) :: starEach es X.env := by rfl) (hpl : (backTo pos (starEach es X.env)).any (·.1) = false := by rfl) :
    PE X (.Call (.Name x p) (e :: es) [] pos) (tCallS sp (WE W) t) := by
  obtain ⟨f, fd, ps, F, hm, kp, b⟩ := c.ex
  exact pe_callS F (hr.mono hk) hg hm kp b (fun σ => passAt tk σ) ha hdb he hpl
end Bx
/-! ### several clauses, each with its name: own rule -/
namespace Bx
open PySem PySem.Spec PyProof.Rows L2
/-- what the clauses wish, one after the other: (class, the name's slot, the suite's reading) -/
def wAll (K : PySem.W.Frag) (Wo : WX) (D : Ends) : List (Value × Nat × (Addr → Value → Option Addr → TS)) → WX
  | [] => Wo
  | (c, i, ts) :: r => fun cls d σ H => ∃ b, PySem.W.exmOne K cls c = some b ∧
    (b = true → ∀ a, H a = none → ts a cls d { nx := fun σ' H' => D.nx (σ'.set i none) H', rt := D.rt, bk := fun σ' H' => D.bk (σ'.set i none) H', ct := fun σ' H' => D.ct (σ'.set i none) H' } (σ.set i (some (.ref a))) H) ∧
    (b = false → wAll K Wo D r cls d σ H)
inductive Clauses (Y : Cx) : List ExceptHandler → List (Value × Nat × (Addr → Value → Option Addr → TS)) → Prop
  | nil : Clauses Y [] []
  | cons {x n : Str} {c : Value} {i : Nat} {ts : Addr → Value → Option Addr → TS} {b0 : Stmt} {suite : List Stmt} {p p' : Pos} {cs : List ExceptHandler} {l : List (Value × Nat × (Addr → Value → Option Addr → TS))}
      (hc : Names Y x c) (hi : Y.N[i]? = some n) (hl : Y.env.kindOf n = some .local)
      (su : ∀ (a : Addr) (oe : Obj) (cls : Value) (d : Option Addr) (pn : List (Addr × Obj)), Zc cls d oe → (∃ vs, oe.data = .fields vs) → PSs (Y.suite a ((a, oe) :: pn)) (b0 :: suite) (ts a cls d)) (r : Clauses Y cs l) :
      Clauses Y (.ExceptHandler (some (.Name x p)) (some n) (b0 :: suite) p' :: cs) ((c, i, ts) :: l)
theorem ps_try_all {Y : Cx} {body : List Stmt} {c0 : ExceptHandler} {cs : List ExceptHandler} {l : List (Value × Nat × (Addr → Value → Option Addr → TS))} {pos : Pos} {tb : WX → TS} {Wo : WX}
    (ks : Y.stack = Y.env :: Y.outer) (kf : Y.env.frame = some Y.env.locals) (kN : Y.N.Nodup) (tk : Takes Y Wo)
    (kb : ∀ (W : WX) (pn : List (Addr × Obj)) (xe : Value → Shared → Prop), Takes (Y.tr pn xe) W → PassesOwn (model Y.prog Y.w) Y.A Y.env xe → PSs (Y.tr pn xe) body (tb W))
    (kh : Clauses Y (c0 :: cs) l) : PS Y (.Try body (c0 :: cs) [] [] pos) (fun D σ H => tb (wAll Y.K Wo D l) D σ H) := by
  refine ⟨fun pins u σ H D I hw => ?_⟩
  have okY := I.ok
  have fr := okY.frames
  rw [ks] at fr
  refine wpAny_Try_except ?_
  refine wpAny_mono ((kb (wAll Y.K Wo D l) (Y.pn ++ pins) (fun e u1 => wpAny (model Y.prog Y.w) Y.A (noteFrame e Y.env) (fun _ u2 => wpAny (model Y.prog Y.w) Y.A (setFlight e none) (fun _ u3 =>
    wpAny (model Y.prog Y.w) Y.A (handleBy e Y.env (c0 :: cs)) (SP Y pins D) Y.xe u3) Y.xe u2) Y.xe u1) (fun v g xx => ?_) PassesOwn.looking).run [] u σ H D (I.toTry _) hw) (fun f u1 q => ?_) (fun e u1 q => q)
  · obtain ⟨a, B, sI, pins1, σ1, H1, cls, d, rfl, Jt, nb, up, sk, na, os, ag, w⟩ := xx
    have J : Inv Y pins σ1 H1 sI := Jt.ofTry okY
    have sk1 : Sky B (Y.env :: Y.outer) a (Zc cls d) Y.env.locals g.heap := by rw [← ks]; exact sk
    show wpAny (model Y.prog Y.w) Y.A (noteFrame (.ref a) Y.env) _ _ _
    refine Sky.land Zc.steady fr kf sk1 fun g3 f3 u3 => ?_
    have I3 : Inv Y pins σ1 H1 { g with heap := g3 } := J.landed nb f3.1 (up.trans u3) os ag
    obtain ⟨o3, w3, at3, z3, dt3⟩ := f3.there
    have apart : ∀ {t : Heap} {o : Obj} {vs : Array Value}, t.FunFrames B (Y.env :: Y.outer) → t.get? a = some o → o.data = .fields vs → a ∉ frs (Y.env :: Y.outer) := fun {t o vs} ff e dd hm => by
      obtain ⟨_, o2, e2, q2⟩ := ff.mem hm
      rw [e] at e2
      cases e2
      exact q2 _ dd
    have n0 := apart f3.2.2.1 at3 dt3
    have nL : a ≠ Y.env.locals := fun z => n0 (List.mem_filterMap.mpr ⟨Y.env, List.mem_cons_self, by rw [kf, z]⟩)
    have nF : a ∉ Y.fs := fun hm => by
      obtain ⟨e, he, q⟩ := List.mem_filterMap.mp hm
      exact n0 (List.mem_filterMap.mpr ⟨e, List.mem_cons_of_mem _ he, q⟩)
    have T3 := I3.suite at3 dt3 na nL nF
    have all : ∀ {cs2 : List ExceptHandler} {l2 : List (Value × Nat × (Addr → Value → Option Addr → TS))}, Clauses Y cs2 l2 → wAll Y.K Wo D l2 cls d σ1 H1 →
        wpAny (model Y.prog Y.w) Y.A (handleBy (.ref a) Y.env cs2) (SP Y pins D) Y.xe { g with heap := g3 } := by
      intro cs2 l2 hk
      induction hk with
      | nil =>
        intro w
        refine wpAny_handleBy_nil ?_
        obtain ⟨_, _, _, oe, vs, T, oT, t2, he, hz, hd, h1, _⟩ := id f3
        unfold PySem.passOn
        refine wpAny_bind (wpAny_field he hd h1 ?_)
        rw [if_neg (show ¬ ((Value.ref T == Value.none) = true) from by simp)]
        have away : wpAny (model Y.prog Y.w) Y.A (setFlight (.ref a) Y.env.frame) (fun _ u4 => wpAny (model Y.prog Y.w) Y.A (throw (.ref a) : Sem Flow) (SP Y pins D) Y.xe u4) Y.xe { g with heap := g3 } := by
          rw [kf]
          refine HandSPX.setFlight_upZ f3 fun g4 q4 u4 => wpAny_throw (tk _ _ ?_)
          exact ⟨a, B, sI, pins, σ1, H1, cls, d, rfl, J, nb, (up.trans u3).trans u4, .inr (.inr (by rw [ks]; exact q4)), na, os, ag, w⟩
        first
          | exact wpAny_bind (wpAny_pure (wpAny_bind away))
          | exact wpAny_bind away
      | @cons x n c i ts b0 suite p p' cs3 l3 hc hi hl su r ih =>
        intro w
        obtain ⟨b, e1, yes, no⟩ := w
        refine wpAny_handleBy_cons (codeAny_handlers_test ?_) (by intro q; cases q)
        have LT : PySem.W.Looks (model Y.prog Y.w) g3 (typeOf (.ref a)) cls := fun A Q E s k q => wpAny_typeOf_ref (k _ _ at3) (by rw [z3.1]; exact q)
        have LM := PySem.W.exm_one (M := model Y.prog Y.w) (I3.kIn) LT e1
        have test : ∀ {Q : Value → Shared → Prop} {E : Value → Shared → Prop}, Q c { g with heap := g3 } → wpAny (model Y.prog Y.w) (Y.A.mark (some (.ref a))) (eval (.Name x p) Y.env) Q E { g with heap := g3 } := fun {Q E} q => by
          obtain ⟨hg, hdb, hm | ⟨hm, hv, hnn⟩⟩ := hc
          · exact ld_glob (X := Y.suite a ((a, o3) :: (Y.pn ++ pins))) T3 hg hm q hdb
          · exact ld_blt (X := Y.suite a ((a, o3) :: (Y.pn ++ pins))) T3 hg hm hv q hnn hdb
        refine test (LM.here ?_)
        cases b with
        | true =>
          refine codeAny_handlers_suite_as ?_
          refine HandSPX.lands_againZ f3 fun g4 f4 u4 => ?_
          have I4 : Inv Y pins σ1 H1 { g with heap := g4 } := J.landed nb f4.1 ((up.trans u3).trans u4) os ag
          obtain ⟨o4, w4, at4, z4, dt4⟩ := f4.there
          have T4 := I4.suite at4 dt4 na nL nF
          refine store_ok (X := Y.suite a ((a, o4) :: (Y.pn ++ pins))) (v := .ref a) T4 kN hi (.inl hl) rfl (fun u5 T5 => ?_) (.inr hl)
          refine wpAny_mono ((su a o4 cls d (Y.pn ++ pins) z4 ⟨_, dt4⟩).run [] u5 _ H1 _ T5 (yes rfl a na)) (fun f u6 q => ?_) (fun _ _ z => False.elim z)
          have fin : ∀ {σ6 : L2.St} {H6 : Hp} {Q : Shared → Prop}, Inv (Y.suite a ((a, o4) :: (Y.pn ++ pins))) [] σ6 H6 u6 → (∀ u7, Inv Y pins (σ6.set i none) H6 u7 → Q u7) →
              wpAny (model Y.prog Y.w) Y.A (do bindName Y.env n .none; unbindBehindTheSuite Y.env n p') (fun _ u7 => Q u7) Y.xe u6 := fun {σ6 H6 Q} T6 hq => gone_ok (T6.unsuite okY) kN hi hl hq
          cases f with
          | next =>
            obtain ⟨_, _, T6, q6⟩ := q
            exact fin T6 fun _ I7 => ⟨_, _, I7, q6⟩
          | brk =>
            obtain ⟨_, _, T6, q6⟩ := q
            exact fin T6 fun _ I7 => ⟨_, _, I7, q6⟩
          | cont =>
            obtain ⟨_, _, T6, q6⟩ := q
            exact fin T6 fun _ I7 => ⟨_, _, I7, q6⟩
          | ret v =>
            obtain ⟨_, _, _, T6, r6, q6⟩ := q
            exact fin T6 fun _ I7 => ⟨_, _, _, I7, r6, q6⟩
        | false =>
          show wpAny _ Y.A (handleBy (.ref a) Y.env cs3) _ _ _
          exact ih (no rfl)
    exact all kh w
  · cases f with
    | next =>
      obtain ⟨_, _, J1, q1⟩ := q
      exact wpAny_execs_nil ⟨_, _, J1.ofTry okY, q1⟩
    | brk =>
      obtain ⟨_, _, J1, q1⟩ := q
      exact ⟨_, _, J1.ofTry okY, q1⟩
    | cont =>
      obtain ⟨_, _, J1, q1⟩ := q
      exact ⟨_, _, J1.ofTry okY, q1⟩
    | ret v =>
      obtain ⟨_, _, _, J1, r1, q1⟩ := q
      exact ⟨_, _, _, J1.ofTry okY, r1, q1⟩
end Bx
/-! ### max of a tuple of ints, lcm: own rules -/
namespace MaxT
open PySem PySem.W PyProof.Rows
section
variable {prog : Program} {w : World} {A : Around} {E : Value → Shared → Prop} {s : Shared}
theorem walkT {l : Addr} {xs : Array (Int × Tok)} {Q : Value → Shared → Prop} (hh : A.handled = none) (ht : s.heap.IsTuple l (intItems xs)) (hne : 0 < xs.size)
    (h : ∀ v g tk, (intItems xs)[argBest (fun i j => decide (numAt xs i > numAt xs j)) (xs.size - 1)]? = some v → (∀ b o, s.heap.get? b = some o → g.get? b = some o) → Q v { s with heap := g, toks := tk }) :
    wpAny (model prog w) A (call (.builtin "max") [.ref l]) Q E s := by
  have ll : l < s.heap.objs.size := by
    obtain ⟨_, e, _⟩ := ht
    exact Heap.lt_size e
  refine call_max_walk (wpAny_pyIter_tuple ht ?_)
  refine ⟨_, _, _, _, _, _, _, rfl, Walks.tuple (A := A.in1) hh _ l (Nat.ne_of_lt ll) (intItems xs), ⟨⟨_, Heap.get?_push_size _ rfl, rfl, rfl⟩, ht.push _⟩, fun c hc => ?_, by simpa [intItems] using hne, CmpOf.ints_gt (numAt xs) (fun _ _ => intItems_at), fun v g tk hP hk => ?_⟩
  · show c < (s.heap.push _).objs.size
    rw [Heap.size_push]
    rcases List.mem_cons.mp hc with rfl | hc
    · exact Nat.lt_succ_self _
    · rcases List.mem_cons.mp hc with rfl | hc
      · exact Nat.lt_succ_of_lt ll
      · cases hc
  · refine h v g tk (by simpa [intItems] using hP) fun b o e => hk b o (fun hm => ?_) (Heap.get?_push_of_some _ e)
    have e1 : b = s.heap.objs.size := List.mem_singleton.mp hm
    rw [e1] at e
    exact absurd (Heap.lt_size e) (Nat.lt_irrefl _)
theorem rawT {l : Addr} {its : List Value} {ns : List Int} {Q : Value → Shared → Prop} (hh : A.handled = none) (hl : IsTup s.heap l its.toArray) (hi : IntsAre its ns) (hne : ns ≠ [])
    (h : ∀ (g : Heap) (tk : Nat) (m : Int) (t' : Tok), (∀ b o, s.heap.get? b = some o → g.get? b = some o) → m ∈ ns → (∀ y ∈ ns, y ≤ m) → Q (.int m t') { s with heap := g, toks := tk }) :
    wpAny (model prog w) A (call (.builtin "max") [.ref l]) Q E s := by
  obtain ⟨xs, e⟩ := hi.allInts.items
  have hn : numsOf (intItems xs).toList = ns := by rw [← e]; exact hi.numsOf
  rw [PySem.nums_intItems] at hn
  subst hn
  rw [e] at hl
  have c : 0 < xs.size := by
    rcases Nat.eq_zero_or_pos xs.size with z | z
    · refine absurd ?_ hne
      have : xs = #[] := Array.eq_empty_of_size_eq_zero z
      rw [this]
      rfl
    · exact z
  refine walkT hh hl c fun v g tk p1 keep => ?_
  obtain ⟨u, rfl⟩ := intItems_at p1
  obtain ⟨a1, a2⟩ := argBest_gt (numAt xs) (xs.size - 1)
  refine h g tk _ u keep ?_ fun y hy => ?_
  · rw [PySem.numAt_eq]
    refine PySem.getD_mem ?_
    rw [List.length_map, Array.length_toList]
    exact Nat.lt_of_le_of_lt a1 (by omega)
  · obtain ⟨j, hj, rfl⟩ := PySem.mem_getD hy
    rw [List.length_map, Array.length_toList] at hj
    rw [← PySem.numAt_eq]
    exact a2 j (by omega)
end
end MaxT
namespace Bx
open PySem PySem.Spec PyProof.Rows L2
def rMaxT (K : PySem.W.Frag) : List V → Hp → VK → Prop := fun xs H Q => ∃ (a : Addr) (ns : List Int), xs = [.ref a] ∧ SqT K H a (ns.map V.int) ∧ ns ≠ [] ∧ ∀ m, m ∈ ns → (∀ y ∈ ns, y ≤ m) → Q (.int m) H
theorem call_maxT {X : Cx} {K : PySem.W.Frag} (h : X.K = K) (hc : X.calm = true) : CallR X (.builtin "max") (rMaxT K) := by
  subst h
  intro pins s σ H xs us Q I r hw
  obtain ⟨a, ns, rfl, hs, hne, q⟩ := hw
  obtain ⟨its, rv, ht, _⟩ := I.tuple hs
  rw [Vals.ref1 r]
  exact MaxT.rawT (I.ok.hd hc) ht rv.ints hne fun g tk m t' hk h1 h2 => ⟨.int m, H, I.kept hk, ⟨_, rfl⟩, q m h1 h2⟩
theorem call_maxK {X : Cx} {K : PySem.W.Frag} (h : X.K = K) (hc : X.calm = true) : CallR X (.builtin "max") (rMax K) := by
  subst h
  exact cr_max hc
def spCheckX (cL : Addr) : Sp := fun vs H Q E => ∃ (p : Addr) (h l : List Int) (n : Int), vs = [.ref p, .int n] ∧ Las H p h l ∧ l ≠ [] ∧ h.length ≤ 1000 ∧ l.length ≤ 1000 ∧
  ((∃ x, (x ∈ h ∨ x ∈ l) ∧ n ≤ x) → ∀ H', Same H H' → E (.ref cL) none H') ∧ ((∀ x, x ∈ h ∨ x ∈ l → x < n) → ∀ H', Same H H' → Q .non H')
end Bx
/-! ### lists of lists, instances made in a try: own rules -/
namespace Bx
open PySem PySem.Spec PyProof.Rows L2
section
variable {X : Cx}
theorem pi_or {tg iter : Expr} {w1 w2 : TI} (h1 : PI X tg iter w1) (h2 : PI X tg iter w2) : PI X tg iter (fun σ H R => w1 σ H R ∨ w2 σ H R) := ⟨fun pins s σ H R I h => by
  rcases h with h | h
  · exact h1.run pins s σ H R I h
  · exact h2.run pins s σ H R I h⟩
theorem passF {P : Program} {w : World} : Passes (L2.CX P w) X (fun _ _ _ => False) := fun _ _ _ _ _ _ _ h => by
  obtain ⟨_, _, _, _, _, _, _, _, _, _, _, _, z⟩ := h
  exact z.elim
/-- a new instance of an own class whose __init__ may raise -/
structure MakX (P : Program) (w : World) (K : PySem.W.Frag) (mg : Str → Option Value) (base : Heap) (k : Nat) (x : Str) (C : Addr) (sp : Sp) : Prop where
  ex : ∃ (f : Addr) (fd : FuncData) (ps : List Str), Mk K C f ∧ FnOk P w K mg base (L2.CX P w) k f fd ps sp ∧ mg x = some (.ref C) ∧ Binds K fd ps []
def tMakX (C : Addr) (sp : Sp) (E : L2.St → XK) (t : TA) : TE := fun σ H Q => t σ H fun vs H1 => ∀ x dx, H1 x = none → H1 dx = none → dx ≠ x → sp (.ref x :: vs) (upd (upd H1 dx (.own x)) x (.ins C dx [])) (fun v H2 => v = .non ∧ Q (.ref x) H2) (E σ)
theorem made_at {k : Nat} {f C : Addr} {fd : FuncData} {ps : List Str} {sp : Sp} {E : XK} {pins : List (Addr × Obj)} {σ : L2.St} {H : Hp} {u : Shared} {Q : VK} {us : List Value} {vs : List V} (M : Mk X.K C f) (F : FnOk X.prog X.w X.K X.mg X.base (L2.CX X.prog X.w) k f fd ps sp) (hr : Room (k + 1) X.A) (hb : Binds X.K fd ps [])
    (hx : PassesAt (L2.CX X.prog X.w) X σ E) (I : Inv X pins σ H u) (r : Vals vs us)
    (h : ∀ x dx, H x = none → H dx = none → dx ≠ x → sp (.ref x :: vs) (upd (upd H dx (.own x)) x (.ins C dx [])) (fun v H2 => v = .non ∧ Q (.ref x) H2) E) :
    wpAny (model X.prog X.w) X.A (call (.ref C) us) (EP X pins σ Q) X.xe u := by
  have q0 := h (u.heap.objs.size + 1) u.heap.objs.size (I.hok.fresh (Nat.le_succ _)) (I.hok.fresh (Nat.le_refl _)) (Nat.ne_of_lt (Nat.lt_succ_self _))
  have J := Inv.made (C := C) I
  have r2 : Vals (V.ref (u.heap.objs.size + 1) :: vs) (Value.ref (u.heap.objs.size + 1) :: us) := .cons rfl r
  have hl : (Value.ref (u.heap.objs.size + 1) :: us ++ []).length = ps.length := by
    have e := r2.length
    rw [F.len _ _ _ _ q0] at e
    rw [List.append_nil]
    exact e.symm
  refine wpAny_call (make_map (f := f) I.kIn M.makes M.init (beq_iff_eq.mp M.fn) (codeAny_mono (F.run _ X.stack _ _ ⟨Value.ref (u.heap.objs.size + 1) :: us, []⟩ (Value.ref (u.heap.objs.size + 1) :: us) _ _ E (hr.make C us [])
    (J.env0.make C us []) (by have q := hb _ (Value.ref (u.heap.objs.size + 1) :: us) J.kIn hl; rw [List.append_nil] at q; exact q) r2 q0) fun r u' hq => ?_))
  cases r with
  | error e => exact hx pins _ _ e u' J hq
  | ok fl =>
    cases fl with
    | ret v =>
      obtain ⟨y, G, J3, ry, ey, qy⟩ := J.after hq
      subst ey
      exact ⟨ry, ⟨V.ref (u.heap.objs.size + 1), G, J3, rfl, qy⟩⟩
    | next => exact False.elim hq
    | brk => exact False.elim hq
    | cont => exact False.elim hq
theorem pe_makeX {k j : Nat} {C : Addr} {x : Str} {sp : Sp} {W : WX} {p pos : Pos} {e : Expr} {es : List Expr} {t : TA} (c : MakX X.prog X.w X.K X.mg X.base k x C sp) (hr : Room j X.A) (hk : k + 1 ≤ j) (tk : Takes X W) (hg : Gl X x) (ha : PA X (e :: es) t)
    (hdb : (x == ("__debug__" : Str)) = false := by decide) (he : starEach (e :: es) X.env = (false, eval e X.env) :: starEach es X.env := by rfl) (hpl : (backTo pos (starEach es X.env)).any (·.1) = false := by rfl) :
    PE X (.Call (.Name x p) (e :: es) [] pos) (tMakX C sp (WE W) t) := by
  obtain ⟨f, fd, ps, M, F, hm, b⟩ := c.ex
  refine ⟨fun pins u σ H Q I hw => ?_⟩
  refine wpAny_Call_Name_kw (ld_glob I hg hm ?_ hdb)
  refine PySem.W.callWith_K (h₀ := X.base) I.ok.mod.kin M.kp (thn (ha.run pos pins u σ H _ I hw) fun us u1 ⟨vs, H1, I1, rv, qv⟩ => ⟨I1.kIn, ?_⟩) he hpl
  exact made_at M F (hr.mono hk) b (passAt tk σ) I1 rv qv
theorem pe_makeN {k j : Nat} {C : Addr} {x : Str} {sp : Sp} {p pos : Pos} {e : Expr} {es : List Expr} {t : TA} (c : MakX X.prog X.w X.K X.mg X.base k x C sp) (hr : Room j X.A) (hk : k + 1 ≤ j) (hg : Gl X x) (ha : PA X (e :: es) t)
    (hdb : (x == ("__debug__" : Str)) = false := by decide) (he : starEach (e :: es) X.env = (false, eval e X.env) :: starEach es X.env := by rfl) (hpl : (backTo pos (starEach es X.env)).any (·.1) = false := by rfl) :
    PE X (.Call (.Name x p) (e :: es) [] pos) (tMakX C sp (fun _ => fun _ _ _ => False) t) := by
  obtain ⟨f, fd, ps, M, F, hm, b⟩ := c.ex
  refine ⟨fun pins u σ H Q I hw => ?_⟩
  refine wpAny_Call_Name_kw (ld_glob I hg hm ?_ hdb)
  refine PySem.W.callWith_K (h₀ := X.base) I.ok.mod.kin M.kp (thn (ha.run pos pins u σ H _ I hw) fun us u1 ⟨vs, H1, I1, rv, qv⟩ => ⟨I1.kIn, ?_⟩) he hpl
  exact made_at M F (hr.mono hk) b (fun pins G v e v' J q => passF pins σ G v e v' J q) I1 rv qv
end
/-! rows of ints -/
def RowsA (mk : List V → HO) (H : Hp) : List Addr → List (List Int) → Prop
  | [], [] => True
  | a :: as, r :: rs => H a = some (mk (r.map V.int)) ∧ RowsA mk H as rs
  | _, _ => False
def RowsQ (H : Hp) : List Addr → List (List Int) → Prop
  | [], [] => True
  | a :: as, r :: rs => SeqI H a r ∧ RowsQ H as rs
  | _, _ => False
theorem RowsA.keep {mk : List V → HO} {H H' : Hp} : ∀ {as : List Addr} {rs : List (List Int)}, (∀ b o, b ∈ as → H b = some o → H' b = some o) → RowsA mk H as rs → RowsA mk H' as rs
  | [], [], _, _ => True.intro
  | a :: as, r :: rs, k, h => ⟨k a _ List.mem_cons_self h.1, RowsA.keep (fun b o hb => k b o (List.mem_cons_of_mem _ hb)) h.2⟩
  | [], _ :: _, _, h => h.elim
  | _ :: _, [], _, h => h.elim
theorem RowsA.same {mk : List V → HO} {H H' : Hp} {as : List Addr} {rs : List (List Int)} (k : Same H H') (h : RowsA mk H as rs) : RowsA mk H' as rs := h.keep fun b o _ e => k b o e
theorem RowsA.len {mk : List V → HO} {H : Hp} : ∀ {as : List Addr} {rs : List (List Int)}, RowsA mk H as rs → as.length = rs.length
  | [], [], _ => rfl
  | a :: as, r :: rs, h => congrArg (· + 1) h.2.len
  | [], _ :: _, h => h.elim
  | _ :: _, [], h => h.elim
theorem RowsA.snoc {mk : List V → HO} {H : Hp} {a : Addr} {r : List Int} (ha : H a = some (mk (r.map V.int))) : ∀ {as : List Addr} {rs : List (List Int)}, RowsA mk H as rs → RowsA mk H (as ++ [a]) (rs ++ [r])
  | [], [], _ => ⟨ha, True.intro⟩
  | b :: as, q :: rs, h => ⟨h.1, h.2.snoc ha⟩
  | [], _ :: _, h => h.elim
  | _ :: _, [], h => h.elim
theorem RowsA.get {mk : List V → HO} {H : Hp} : ∀ {as : List Addr} {rs : List (List Int)} {i : Nat} {a : Addr}, RowsA mk H as rs → as[i]? = some a → ∃ r, rs[i]? = some r ∧ H a = some (mk (r.map V.int))
  | [], _, _, _, _, e => by simp at e
  | b :: as, [], _, _, h, _ => h.elim
  | b :: as, q :: rs, 0, a, h, e => by
    have : b = a := Option.some.inj e
    subst this
    exact ⟨q, rfl, h.1⟩
  | b :: as, q :: rs, i + 1, a, h, e => RowsA.get (i := i) h.2 e
theorem RowsA.q1 {H : Hp} : ∀ {as : List Addr} {rs : List (List Int)}, RowsA .lst H as rs → RowsQ H as rs
  | [], [], _ => True.intro
  | a :: as, r :: rs, h => ⟨.inl h.1, h.2.q1⟩
  | [], _ :: _, h => h.elim
  | _ :: _, [], h => h.elim
theorem RowsA.q2 {H : Hp} : ∀ {as : List Addr} {rs : List (List Int)}, RowsA .tup H as rs → RowsQ H as rs
  | [], [], _ => True.intro
  | a :: as, r :: rs, h => ⟨.inr h.1, h.2.q2⟩
  | [], _ :: _, h => h.elim
  | _ :: _, [], h => h.elim
theorem RowsQ.same {H H' : Hp} (k : Same H H') : ∀ {as : List Addr} {rs : List (List Int)}, RowsQ H as rs → RowsQ H' as rs
  | [], [], _ => True.intro
  | a :: as, r :: rs, h => ⟨h.1.same k, h.2.same k⟩
  | [], _ :: _, h => h.elim
  | _ :: _, [], h => h.elim
theorem RowsQ.len {H : Hp} : ∀ {as : List Addr} {rs : List (List Int)}, RowsQ H as rs → as.length = rs.length
  | [], [], _ => rfl
  | a :: as, r :: rs, h => congrArg (· + 1) h.2.len
  | [], _ :: _, h => h.elim
  | _ :: _, [], h => h.elim
theorem RowsQ.get {H : Hp} : ∀ {as : List Addr} {rs : List (List Int)} {i : Nat} {a : Addr}, RowsQ H as rs → as[i]? = some a → ∃ r, rs[i]? = some r ∧ SeqI H a r
  | [], _, _, _, _, e => by simp at e
  | b :: as, [], _, _, h, _ => h.elim
  | b :: as, q :: rs, 0, a, h, e => by
    have : b = a := Option.some.inj e
    subst this
    exact ⟨q, rfl, h.1⟩
  | b :: as, q :: rs, i + 1, a, h, e => RowsQ.get (i := i) h.2 e
/-- a list or a tuple of any values -/
def SeqV (H : Hp) (a : Addr) (xs : List V) : Prop := H a = some (.lst xs) ∨ H a = some (.tup xs)
theorem SeqV.same {H H' : Hp} {a : Addr} {xs : List V} (k : Same H H') (h : SeqV H a xs) : SeqV H' a xs := by
  rcases h with h | h
  · exact .inl (k _ _ h)
  · exact .inr (k _ _ h)
theorem SeqV.sq {K : PySem.W.Frag} {H : Hp} {a : Addr} {xs : List V} (h : SeqV H a xs) : SqL K H a xs ∨ SqT K H a xs := by
  rcases h with h | h
  · exact .inl (.of h)
  · exact .inr (.of h)
def iSeq (K : PySem.W.Frag) (te : TE) : TI := fun σ H R => iList K te σ H R ∨ iTup K te σ H R
theorem pi_listK {X : Cx} {K : PySem.W.Frag} {tg e : Expr} {te : TE} (h : X.K = K) (he : PE X e te) : PI X tg e (iList K te) := by
  subst h
  exact pi_list he
theorem pi_tupK {X : Cx} {K : PySem.W.Frag} {tg e : Expr} {te : TE} (h : X.K = K) (he : PE X e te) : PI X tg e (iTup K te) := by
  subst h
  exact pi_tup he
theorem pi_seq {X : Cx} {K : PySem.W.Frag} {tg e : Expr} {te : TE} (h : X.K = K) (he : PE X e te) : PI X tg e (iSeq K te) := by
  subst h
  exact pi_or (pi_list he) (pi_tup he)
theorem for_seq {K : PySem.W.Frag} {i : Nat} {a : Addr} {xs : List V} {g : TG} {tb : TS} {D : Ends} {σ : L2.St} {H : Hp} (hv : σ[i]? = some (some (.ref a))) (hq : SeqV H a xs) (Pv : Nat → L2.St → Hp → Prop) (h0 : Pv 0 σ H) (hS : ∀ i σ' H', Pv i σ' H' → Same H H')
    (hs : ∀ i x σ H, xs[i]? = some x → Pv i σ H → g x σ H fun σ2 H2 => tb { D with nx := Pv (i + 1), ct := Pv (i + 1), bk := D.nx } σ2 H2) (hd : ∀ σ H, Pv xs.length σ H → D.nx σ H) : tFor (iSeq K (tVar i)) g tb D σ H := by
  rcases hq with h | h
  · exact .inl ⟨_, hv, a, rfl, ⟨_, .of h⟩, for_list Pv h0 (fun i σ' H' _ p => .of (hS i σ' H' p _ _ h)) hs hd⟩
  · exact .inr ⟨_, hv, a, rfl, ⟨_, .of h⟩, for_tup Pv h0 (fun i σ' H' _ p => .of (hS i σ' H' p _ _ h)) hs hd⟩
/-- a list of lists of ints -/
def LL (H : Hp) (r : Addr) (as : List Addr) (rows : List (List Int)) : Prop := H r = some (.lst (as.map V.ref)) ∧ RowsA .lst H as rows
def Vld (L s : Int) (ps : List Int) (rows : List (List Int)) : Prop := 1 ≤ L ∧ rows ≠ [] ∧ ps.length = rows.length ∧ (0 ≤ s ∧ s < (rows.length : Int)) ∧ (∀ r ∈ rows, (r.length : Int) = L ∧ ∀ x ∈ r, 0 ≤ x ∧ x < (rows.length : Int)) ∧ ∀ p ∈ ps, 0 ≤ p
/-- the fields of a parity automaton, as they are stored -/
def pf (L s : Int) (pt rt : Addr) : List (Str × V) := putF "rows" (.ref rt) (putF "priorities" (.ref pt) (putF "start" (.int s) (putF "letters" (.int L) [])))
theorem putF_len (f : Str) (v : V) : ∀ fs : List (Str × V), (putF f v fs).length ≤ fs.length + 1
  | [] => Nat.le_refl _
  | (g, x) :: r => by
    unfold putF
    by_cases c : g = f
    · rw [if_pos c]
      exact Nat.le_succ _
    · rw [if_neg c]
      exact Nat.succ_le_succ (putF_len f v r)
theorem pf_L (L s : Int) (pt rt : Addr) : (pf L s pt rt).lookup ("letters" : Str) = some (.int L) := by
  unfold pf
  rw [lookup_putF, if_neg (by decide +kernel), lookup_putF, if_neg (by decide +kernel), lookup_putF, if_neg (by decide +kernel), lookup_putF, if_pos rfl]
theorem pf_s (L s : Int) (pt rt : Addr) : (pf L s pt rt).lookup ("start" : Str) = some (.int s) := by
  unfold pf
  rw [lookup_putF, if_neg (by decide +kernel), lookup_putF, if_neg (by decide +kernel), lookup_putF, if_pos rfl]
theorem pf_p (L s : Int) (pt rt : Addr) : (pf L s pt rt).lookup ("priorities" : Str) = some (.ref pt) := by
  unfold pf
  rw [lookup_putF, if_neg (by decide +kernel), lookup_putF, if_pos rfl]
theorem pf_r (L s : Int) (pt rt : Addr) : (pf L s pt rt).lookup ("rows" : Str) = some (.ref rt) := by
  unfold pf
  rw [lookup_putF, if_pos rfl]
/-- a parity automaton at x -/
def ParAt (C : Addr) (H : Hp) (x : Addr) (L s : Int) (ps : List Int) (rows : List (List Int)) : Prop := ∃ (dx pt rt : Addr) (as : List Addr), H x = some (.ins C dx (pf L s pt rt)) ∧ TupI H pt ps ∧ H rt = some (.tup (as.map V.ref)) ∧ RowsA .tup H as rows
theorem ParAt.same {C : Addr} {H H' : Hp} {x : Addr} {L s : Int} {ps : List Int} {rows : List (List Int)} (k : Same H H') (h : ParAt C H x L s ps rows) : ParAt C H' x L s ps rows := by
  obtain ⟨dx, pt, rt, as, e1, e2, e3, e4⟩ := h
  exact ⟨dx, pt, rt, as, k _ _ e1, k _ _ e2, k _ _ e3, e4.same k⟩
/-- what the class has -/
structure ParC (K : PySem.W.Frag) (C : Addr) : Prop where
  cl : Cls K C
  nL : NoAttr K C "letters"
  nS : NoAttr K C "start"
  nP : NoAttr K C "priorities"
  nR : NoAttr K C "rows"
def spCheckS (cI : Addr) : Sp := fun vs H Q E => ∃ (z n : Int), vs = [.int z, .int n] ∧ (¬ (0 ≤ z ∧ z < n) → E (.ref cI) none H) ∧ ((0 ≤ z ∧ z < n) → Q .non H)
def spInitP (C cI : Addr) : Sp := fun vs H Q E => ∃ (x p r dx : Addr) (L s : Int) (ps : List Int) (as : List Addr) (rows : List (List Int)), vs = [.ref x, .int L, .int s, .ref p, .ref r] ∧ H x = some (.ins C dx []) ∧ H p = some (.lst (ps.map V.int)) ∧ SeqV H r (as.map V.ref) ∧ RowsQ H as rows ∧
  rows.length ≤ 1000 ∧ ps.length ≤ 1000 ∧ (∀ q ∈ rows, q.length ≤ 1000) ∧ (¬ Vld L s ps rows → E (.ref cI) none H) ∧ (Vld L s ps rows → ∀ H', Kp x H H' → ParAt C H' x L s ps rows → Q .non H')
end Bx
namespace Bx
open PySem PySem.Spec PyProof.Rows L2
theorem lc_seq {K : PySem.W.Frag} {i : Nat} {a : Addr} {xs : List V} {g : TG} {tt : TT} {te : TE} {vs : List Nat} {σ : L2.St} {H : Hp} {Q : VK} (hv : σ[i]? = some (some (.ref a))) (hq : SeqV H a xs) (Pv : Addr → Nat → Hp → Prop) (h0 : ∀ D, H D = none → Pv D 0 (upd H D (.lst [])))
    (hS : ∀ D j H', H D = none → Pv D j H' → Same H H')
    (hs : ∀ D, H D = none → ∀ i x H', xs[i]? = some x → Pv D i H' → g x (wipe σ vs) H' fun σ2 H2 => wipe σ2 vs = wipe σ vs ∧ tt σ2 H2 fun b H3 => if b = true then te σ2 H3 fun y H4 => ∃ acc, H4 D = some (.lst acc) ∧ acc.length < sizeLine ∧ Pv D (i + 1) (upd H4 D (.lst (acc ++ [y]))) else Pv D (i + 1) H3)
    (hd : ∀ D H', H D = none → Pv D xs.length H' → Q (.ref D) H') : tLc (iSeq K (tVar i)) g tt te vs σ H Q := by
  rcases hq with h | h
  · exact .inl ⟨_, hv, a, rfl, ⟨_, .of h⟩, fun D hD => lc_list (Pv D) (h0 D hD) (fun i H' _ p => .of (hS D i H' hD p _ _ h)) (hs D hD) (fun H' p => hd D H' hD p)⟩
  · exact .inr ⟨_, hv, a, rfl, ⟨_, .of h⟩, fun D hD => lc_tup (Pv D) (h0 D hD) (fun i H' _ p => .of (hS D i H' hD p _ _ h)) (hs D hD) (fun H' p => hd D H' hD p)⟩
theorem rowsUpd {H : Hp} {x : Addr} {o : HO} (hx : ∀ ys, H x ≠ some (.tup ys)) : ∀ {as : List Addr} {rs : List (List Int)}, RowsA .tup H as rs → RowsA .tup (upd H x o) as rs
  | [], [], _ => True.intro
  | a :: as, r :: rs, h => ⟨by
      have h1 := h.1
      rw [upd_ne (fun z => by rw [z] at h1; exact hx _ h1)]
      exact h1, rowsUpd hx h.2⟩
  | [], _ :: _, h => h.elim
  | _ :: _, [], h => h.elim
theorem refs_get {as : List Addr} {i : Nat} {v : V} (h : (as.map V.ref)[i]? = some v) : ∃ a, as[i]? = some a ∧ v = .ref a := by
  rw [List.getElem?_map] at h
  cases e : as[i]? with
  | none => rw [e] at h; cases h
  | some z => rw [e] at h; exact ⟨z, rfl, (Option.some.inj h).symm⟩
theorem ints_get {xs : List Int} {i : Nat} {v : V} (h : (xs.map V.int)[i]? = some v) : ∃ x, xs[i]? = some x ∧ v = .int x := by
  rw [List.getElem?_map] at h
  cases e : xs[i]? with
  | none => rw [e] at h; cases h
  | some z => rw [e] at h; exact ⟨z, rfl, (Option.some.inj h).symm⟩
theorem take_get {α : Type} {xs : List α} {i : Nat} {x : α} (h : xs[i]? = some x) : xs.take (i + 1) = xs.take i ++ [x] := by
  rw [List.take_add_one, h]
  rfl
theorem pl_next {f : Str} {v : V} {fs : List (Str × V)} {n : Nat} (h : fs.length ≤ n) : (putF f v fs).length ≤ n + 1 := Nat.le_trans (putF_len f v fs) (Nat.succ_le_succ h)
theorem pl_lt {fs : List (Str × V)} {n : Nat} (h : fs.length ≤ n) (k : n < 1000) : fs.length < 1000 := Nat.lt_of_le_of_lt h k
theorem pl_0 : ([] : List (Str × V)).length ≤ 0 := Nat.le_refl _
theorem fld_def {Kf : PySem.W.Frag} {ta tv : TE} {f : Str} {D : Ends} {σ : L2.St} {H : Hp} (h : tv σ H fun y H1 => ta σ H1 fun x H2 => ∃ a C dx fs, x = .ref a ∧ H2 a = some (.ins C dx fs) ∧ Cls Kf C ∧ NoAttr Kf C f ∧ fs.length < 1000 ∧ D.nx σ (upd H2 a (.ins C dx (putF f y fs)))) : sFld Kf ta tv f D σ H := h
theorem cb1_def {r : List V → Hp → VK → Prop} {te : TE} {σ : L2.St} {H : Hp} {Q : VK} (h : te σ H fun v H1 => r [v] H1 Q) : tCB r (tCons te tNil) σ H Q := h
theorem rows_some {mk : List V → HO} {H : Hp} : ∀ {as : List Addr} {rs : List (List Int)} {a : Addr}, RowsA mk H as rs → a ∈ as → ∃ o, H a = some o
  | [], _, _, _, h => by simp at h
  | b :: as, [], _, h, _ => h.elim
  | b :: as, r :: rs, a, h, m => by
    rcases List.mem_cons.mp m with z | z
    · rw [z]
      exact ⟨_, h.1⟩
    · exact rows_some h.2 z
theorem LL.same {H H' : Hp} {r : Addr} {as : List Addr} {rows : List (List Int)} (k : Same H H') (h : LL H r as rows) : LL H' r as rows := ⟨k _ _ h.1, h.2.same k⟩
def exS (d : Scope) : Expr → Scope
  | .ListComp _ _ s _ => s
  | .Call _ (.ListComp _ _ s _ :: _) _ _ => s
  | _ => d
def stS (d : Scope) (i : Nat) (b : List Stmt) : Scope := match b[i]? with
  | some (.Return (some e) _) => exS d e
  | some (.Assign _ e _) => exS d e
  | _ => d
/-- ascending numbers below n -/
def Asc (n : Int) (xs : List Int) : Prop := xs.Pairwise (· < ·) ∧ ∀ x ∈ xs, 0 ≤ x ∧ x < n
/-- rows of rows of ints -/
def CubB (mk : List V → HO) (H : Hp) : List Addr → List (List Addr) → List (List (List Int)) → Prop
  | [], [], [] => True
  | a :: as, bs :: bss, r :: rs => (H a = some (mk (bs.map V.ref)) ∧ RowsA mk H bs r) ∧ CubB mk H as bss rs
  | _, _, _ => False
theorem cub_keep {mk : List V → HO} {H H' : Hp} : ∀ {as : List Addr} {bss : List (List Addr)} {c : List (List (List Int))}, (∀ b o, (b ∈ as ∨ ∃ bs ∈ bss, b ∈ bs) → H b = some o → H' b = some o) → CubB mk H as bss c → CubB mk H' as bss c
  | [], [], [], _, _ => True.intro
  | a :: as, bs :: bss, r :: rs, k, h => ⟨⟨k a _ (.inl List.mem_cons_self) h.1.1, h.1.2.keep fun b o hb => k b o (.inr ⟨bs, List.mem_cons_self, hb⟩)⟩, cub_keep (fun b o hb => k b o (by
      rcases hb with z | ⟨q, z, y⟩
      · exact .inl (List.mem_cons_of_mem _ z)
      · exact .inr ⟨q, List.mem_cons_of_mem _ z, y⟩)) h.2⟩
  | [], [], _ :: _, _, h => h.elim
  | [], _ :: _, _, _, h => h.elim
  | _ :: _, [], _, _, h => h.elim
  | _ :: _, _ :: _, [], _, h => h.elim
theorem cub_same {mk : List V → HO} {H H' : Hp} {as : List Addr} {bss : List (List Addr)} {c : List (List (List Int))} (s : Same H H') (h : CubB mk H as bss c) : CubB mk H' as bss c := cub_keep (fun b o _ e => s b o e) h
theorem cub_len {mk : List V → HO} {H : Hp} : ∀ {as : List Addr} {bss : List (List Addr)} {c : List (List (List Int))}, CubB mk H as bss c → as.length = c.length ∧ bss.length = c.length
  | [], [], [], _ => ⟨rfl, rfl⟩
  | a :: as, bs :: bss, r :: rs, h => ⟨congrArg (· + 1) (cub_len h.2).1, congrArg (· + 1) (cub_len h.2).2⟩
  | [], [], _ :: _, h => h.elim
  | [], _ :: _, _, h => h.elim
  | _ :: _, [], _, h => h.elim
  | _ :: _, _ :: _, [], h => h.elim
theorem cub_snoc {mk : List V → HO} {H : Hp} {a : Addr} {bs : List Addr} {r : List (List Int)} (h1 : H a = some (mk (bs.map V.ref))) (h2 : RowsA mk H bs r) : ∀ {as : List Addr} {bss : List (List Addr)} {c : List (List (List Int))}, CubB mk H as bss c → CubB mk H (as ++ [a]) (bss ++ [bs]) (c ++ [r])
  | [], [], [], _ => ⟨⟨h1, h2⟩, True.intro⟩
  | b :: as, cs :: bss, q :: rs, h => ⟨h.1, cub_snoc h1 h2 h.2⟩
  | [], [], _ :: _, h => h.elim
  | [], _ :: _, _, h => h.elim
  | _ :: _, [], _, h => h.elim
  | _ :: _, _ :: _, [], h => h.elim
theorem cub_get {mk : List V → HO} {H : Hp} : ∀ {as : List Addr} {bss : List (List Addr)} {c : List (List (List Int))} {i : Nat} {a : Addr}, CubB mk H as bss c → as[i]? = some a → ∃ bs r, bss[i]? = some bs ∧ c[i]? = some r ∧ H a = some (mk (bs.map V.ref)) ∧ RowsA mk H bs r
  | [], _, _, _, _, _, e => by simp at e
  | a :: as, bs :: bss, r :: rs, 0, b, h, e => by
    have : a = b := Option.some.inj e
    subst this
    exact ⟨bs, r, rfl, rfl, h.1.1, h.1.2⟩
  | a :: as, bs :: bss, r :: rs, i + 1, b, h, e => cub_get (i := i) h.2 e
  | _ :: _, [], _, _, _, h, _ => h.elim
  | _ :: _, _ :: _, [], _, _, h, _ => h.elim
theorem cub_some {mk : List V → HO} {H : Hp} : ∀ {as : List Addr} {bss : List (List Addr)} {c : List (List (List Int))} {b : Addr}, CubB mk H as bss c → (b ∈ as ∨ ∃ bs ∈ bss, b ∈ bs) → ∃ o, H b = some o
  | [], [], _, _, _, h => by
    rcases h with h | ⟨_, h, _⟩
    · simp at h
    · simp at h
  | a :: as, bs :: bss, r :: rs, b, h, m => by
    rcases m with m | ⟨q, m, y⟩
    · rcases List.mem_cons.mp m with z | z
      · rw [z]; exact ⟨_, h.1.1⟩
      · exact cub_some h.2 (.inl z)
    · rcases List.mem_cons.mp m with z | z
      · rw [z] at y; exact rows_some h.1.2 y
      · exact cub_some h.2 (.inr ⟨q, z, y⟩)
  | [], _ :: _, _, _, h, _ => h.elim
  | _ :: _, [], _, _, h, _ => h.elim
  | _ :: _, _ :: _, [], _, h, _ => h.elim
/-- an object that is not one of the rows may change -/
theorem cub_tup {H : Hp} {x : Addr} {o : HO} (hx : ∀ ys, H x ≠ some (.tup ys)) : ∀ {as : List Addr} {bss : List (List Addr)} {c : List (List (List Int))}, CubB .tup H as bss c → CubB .tup (upd H x o) as bss c
  | [], [], [], _ => True.intro
  | a :: as, bs :: bss, r :: rs, h => ⟨⟨by
      have h1 := h.1.1
      rw [upd_ne (fun z => by rw [z] at h1; exact hx _ h1)]
      exact h1, rowsUpd hx h.1.2⟩, cub_tup hx h.2⟩
  | [], [], _ :: _, h => h.elim
  | [], _ :: _, _, h => h.elim
  | _ :: _, [], _, h => h.elim
  | _ :: _, _ :: _, [], h => h.elim
theorem rows_kp {mk : List V → HO} {H H' : Hp} {x : Addr} (hx : ∀ ys, H x ≠ some (mk ys)) (k : Kp x H H') : ∀ {as : List Addr} {rs : List (List Int)}, RowsA mk H as rs → RowsA mk H' as rs
  | [], [], _ => True.intro
  | a :: as, r :: rs, h => ⟨k _ _ (fun z => by have h1 := h.1; rw [z] at h1; exact hx _ h1) h.1, rows_kp hx k h.2⟩
  | [], _ :: _, h => h.elim
  | _ :: _, [], h => h.elim
theorem cub_kp {mk : List V → HO} {H H' : Hp} {x : Addr} (hx : ∀ ys, H x ≠ some (mk ys)) (k : Kp x H H') : ∀ {as : List Addr} {bss : List (List Addr)} {c : List (List (List Int))}, CubB mk H as bss c → CubB mk H' as bss c
  | [], [], [], _ => True.intro
  | a :: as, bs :: bss, r :: rs, h => ⟨⟨k _ _ (fun z => by have h1 := h.1.1; rw [z] at h1; exact hx _ h1) h.1.1, rows_kp hx k h.1.2⟩, cub_kp hx k h.2⟩
  | [], [], _ :: _, h => h.elim
  | [], _ :: _, _, h => h.elim
  | _ :: _, [], _, h => h.elim
  | _ :: _, _ :: _, [], h => h.elim
def bf (L : Int) (it at_ rt : Addr) : List (Str × V) := putF "rows" (.ref rt) (putF "accepting" (.ref at_) (putF "initial" (.ref it) (putF "letters" (.int L) [])))
theorem bf_L (L : Int) (a b c : Addr) : (bf L a b c).lookup ("letters" : Str) = some (.int L) := by
  unfold bf
  rw [lookup_putF, if_neg (by decide +kernel), lookup_putF, if_neg (by decide +kernel), lookup_putF, if_neg (by decide +kernel), lookup_putF, if_pos rfl]
theorem bf_i (L : Int) (a b c : Addr) : (bf L a b c).lookup ("initial" : Str) = some (.ref a) := by
  unfold bf
  rw [lookup_putF, if_neg (by decide +kernel), lookup_putF, if_neg (by decide +kernel), lookup_putF, if_pos rfl]
theorem bf_a (L : Int) (a b c : Addr) : (bf L a b c).lookup ("accepting" : Str) = some (.ref b) := by
  unfold bf
  rw [lookup_putF, if_neg (by decide +kernel), lookup_putF, if_pos rfl]
theorem bf_r (L : Int) (a b c : Addr) : (bf L a b c).lookup ("rows" : Str) = some (.ref c) := by
  unfold bf
  rw [lookup_putF, if_pos rfl]
def AutAt (C : Addr) (H : Hp) (x : Addr) (L : Int) (ini acc : List Int) (c : List (List (List Int))) : Prop := ∃ (dx it at_ rt : Addr) (as : List Addr) (bss : List (List Addr)), H x = some (.ins C dx (bf L it at_ rt)) ∧ TupI H it ini ∧ TupI H at_ acc ∧ H rt = some (.tup (as.map V.ref)) ∧ CubB .tup H as bss c
theorem aut_same {C : Addr} {H H' : Hp} {x : Addr} {L : Int} {ini acc : List Int} {c : List (List (List Int))} (k : Same H H') (h : AutAt C H x L ini acc c) : AutAt C H' x L ini acc c := by
  obtain ⟨dx, it, at_, rt, as, bss, e1, e2, e3, e4, e5⟩ := h
  exact ⟨dx, it, at_, rt, as, bss, k _ _ e1, k _ _ e2, k _ _ e3, k _ _ e4, cub_same k e5⟩
structure AutC (K : PySem.W.Frag) (C : Addr) : Prop where
  cl : Cls K C
  nL : NoAttr K C "letters"
  nI : NoAttr K C "initial"
  nA : NoAttr K C "accepting"
  nR : NoAttr K C "rows"
  c1 : PySem.W.findIn K (.ref C) "__class__" = some (some (.builtin "object.__class__"))
  c2 : PySem.W.specialIn K (.builtin "object.__class__") "__get__" = some (some (.builtin "getset_descriptor.__get__"))
  c3 : PySem.W.takesIn K (.builtin "object.__class__") = some true
  c4 : PySem.W.mroIn K C (.type "object") = some true
  c5 : PySem.W.kitOne K (.ref C) (.ref C) = some true
def VldB (L : Int) (ini acc : List Int) (c : List (List (List Int))) : Prop := 1 ≤ L ∧ c ≠ [] ∧ Asc c.length ini ∧ Asc c.length acc ∧ ∀ r ∈ c, (r.length : Int) = L ∧ ∀ e ∈ r, Asc c.length e
/-- a list of lists of lists -/
def LC (H : Hp) (r : Addr) (as : List Addr) (bss : List (List Addr)) (c : List (List (List Int))) : Prop := H r = some (.lst (as.map V.ref)) ∧ CubB .lst H as bss c
def spChecks (cI : Addr) : Sp := fun vs H Q E => ∃ (a : Addr) (xs : List Int) (n : Int), vs = [.ref a, .int n] ∧ H a = some (.lst (xs.map V.int)) ∧ (¬ Asc n xs → E (.ref cI) none H) ∧ (Asc n xs → Q .non H)
def spInitB (C cI : Addr) : Sp := fun vs H Q E => ∃ (x i a r dx : Addr) (L : Int) (ini acc : List Int) (as : List Addr) (bss : List (List Addr)) (c : List (List (List Int))), vs = [.ref x, .int L, .ref i, .ref a, .ref r] ∧ H x = some (.ins C dx []) ∧ H i = some (.lst (ini.map V.int)) ∧ H a = some (.lst (acc.map V.int)) ∧ LC H r as bss c ∧
  c.length ≤ 1000 ∧ (∀ r ∈ c, r.length ≤ 1000) ∧ (¬ VldB L ini acc c → E (.ref cI) none H) ∧ (VldB L ini acc c → ∀ H', Kp x H H' → AutAt C H' x L ini acc c → Q .non H')
end Bx

/-! ### own rules: a list extended by a tuple; a tuple's slice with a step -/
namespace Tx
open PySem PySem.Spec PyProof.Rows L2
section
variable {prog : Program} {w : World} {A : Around} {E : Value → Shared → Prop} {s : Shared}
set_option maxRecDepth 8000 in
theorem ext_tup (l b : Addr) (xs ys : Array Value) (n m : Nat) (dd : Option Addr) (sl : Array (Option Value)) (h0 : ¬(!xs.isEmpty && Builtin.List.listTooLong (xs.size + ys.size)) = true) (h1 : xs.size ≤ sizeLine) (h2 : xs.size + ys.size ≤ sizeLine + 1) :
    Meets (Builtin.«list.extend» ⟨[.ref l, .ref b], []⟩) (fun _ R s => s.heap.get? l = some { cls := .type "list", data := .seq xs n } ∧ s.heap.get? b = some { cls := .type "tuple", dict := dd, data := .seq ys m, slots := sl } ∧
      R (.ok (.ret Value.none)) { s with heap := s.heap.update l (Obj.mapSeq fun x => x ++ ys), toks := s.toks }) := .of_wp fun prog w A R s h => by
  obtain ⟨hp, g, d, tk, os⟩ := s
  obtain ⟨hl, hb, h⟩ := h
  have q1 := AutoSeq1.idx_int
  have q2 := AutoSeq1.sub_tuple_tuple
  have q3 := AutoSeq1.sub_list_list
  have q4 := AutoSeq1.sub_tuple_list
  have q5 := AutoSeq1.sub_list_tuple
  have hz : (xs ++ ys).size ≤ sizeLine + 1 := by
    rw [Array.size_append]
    exact h2
  wp_walk using (wpAny_updateSeq hl rfl (hz := h1) (_hz' := hz)), AutoSeq1.wpAny_loadPart' hl, AutoSeq1.wpAny_loadPart' hb
  exact ⟨_, rfl, h⟩
end
section
variable {X : Cx} {K : PySem.W.Frag}
def rExtT (K : PySem.W.Frag) : V → List V → Hp → VK → Prop := fun x vs H Q => ∃ l b xs zs, x = .ref l ∧ vs = [.ref b] ∧ H l = some (.lst xs) ∧ SqT K H b zs ∧ xs.length + zs.length ≤ sizeLine ∧ Q .non (upd H l (.lst (xs ++ zs)))
theorem mt_extT (hK : X.K = K) : MtM X "list.extend" (rExtT K) := by
  subst hK
  intro pins s σ H x vs v us Q I rx rv ⟨l, b, xs, zs, ex, ev, hH, hB, hz, q⟩
  subst ex
  subst ev
  cases rx
  obtain ⟨u, rfl, ru⟩ := rv.one
  cases ru
  obtain ⟨z, its, n, r, hl, e⟩ := I.lstM hH
  obtain ⟨its2, r2, ⟨⟨oc, od, ob, os⟩, e2, ec, m, eb⟩, z2⟩ := I.tuple hB
  have hl2 := r2.length
  dsimp only at ec eb
  subst ec
  subst eb
  have hs : its.toArray.size + its2.toArray.size ≤ sizeLine := by
    rw [List.size_toArray, List.size_toArray]
    omega
  refine call_meets F.slot_list_extend ⟨_, e, rfl⟩ F.entry_list_extend (F.args_list_extend_2 _ _) (ext_tup l b its.toArray its2.toArray n m od os (fun c => ?_) (by omega) (by omega)) ⟨e, e2, ?_⟩
  · rw [notLongL hs, Bool.and_false] at c
    cases c
  · refine ⟨.non, _, I.lset (its' := its ++ its2) hH e (by simp) (r.append r2) ?_, rfl, q⟩
    rw [List.length_append]
    omega
/-- the items that a slice with a step picks -/
def pk3 {α : Type} (xs : List α) (lo hi : Option Int) (c : Int) : List α :=
  (List.range (Builtin.Slice.slicePlaces (Builtin.Slice.sliceAdjust lo hi c xs.length).1 (Builtin.Slice.sliceAdjust lo hi c xs.length).2 c)).filterMap fun (k : Nat) => xs[((Builtin.Slice.sliceAdjust lo hi c xs.length).1 + (k : Int) * c).toNat]?
theorem pk3_vals {xs : List V} {us : List Value} (r : Vals xs us) (lo hi : Option Int) (c : Int) : Vals (pk3 xs lo hi c) (pk3 us lo hi c) := by
  unfold pk3
  rw [r.length]
  generalize List.range (Builtin.Slice.slicePlaces (Builtin.Slice.sliceAdjust lo hi c us.length).1 (Builtin.Slice.sliceAdjust lo hi c us.length).2 c) = ks
  generalize (Builtin.Slice.sliceAdjust lo hi c us.length).1 = b
  induction ks with
  | nil => exact .nil
  | cons k ks ih =>
    rw [List.filterMap_cons, List.filterMap_cons]
    cases e : xs[(b + (k : Int) * c).toNat]? with
    | none =>
      have : us[(b + (k : Int) * c).toNat]? = none := by
        rw [List.getElem?_eq_none_iff] at e ⊢
        rw [← r.length]
        exact e
      rw [this]
      exact ih
    | some x =>
      obtain ⟨u, e2, ru⟩ := Vals.get r e
      rw [e2]
      exact .cons ru ih
theorem pk3_len {α : Type} (xs : List α) (lo hi : Option Int) (c : Int) : (pk3 xs lo hi c).length ≤ Builtin.Slice.slicePlaces (Builtin.Slice.sliceAdjust lo hi c xs.length).1 (Builtin.Slice.sliceAdjust lo hi c xs.length).2 c := by
  unfold pk3
  refine Nat.le_trans (List.length_filterMap_le _ _) ?_
  rw [List.length_range]
  exact Nat.le_refl _
end
section
variable {prog : Program} {w : World} {A : Around} {E : Value → Shared → Prop} {s : Shared}
theorem applied3 {sl : Addr} {vl vu vs : Value} {lo hi : Option Int} {c : Int} {n : Nat} {Q : Int × Int × Nat → Shared → Prop} (hs : s.heap.IsSliceOf sl vl vu vs) (pl : IsPart vl lo) (pu : IsPart vu hi) (ps : IsPart vs (some c)) (hc : c ≠ 0)
    (h : Q ((Builtin.Slice.sliceAdjust lo hi c n).1, c, Builtin.Slice.slicePlaces (Builtin.Slice.sliceAdjust lo hi c n).1 (Builtin.Slice.sliceAdjust lo hi c n).2 c) s) :
    wpAny (model prog w) A (Builtin.Slice.sliceApplied (.ref sl) (pure (n : Int))) Q E s := by
  obtain ⟨ob, g1, _, g3⟩ := id hs
  unfold Builtin.Slice.sliceApplied Builtin.Slice.sliceFields
  refine wpAny_bind (wpAny_bind (wpAny_field g1 g3 (x := vl) rfl (wpAny_bind (wpAny_field g1 g3 (x := vu) rfl (wpAny_bind (wpAny_field g1 g3 (x := vs) rfl (wpAny_pure ?_)))))))
  refine wpAny_bind (HT.slicePart_ ps ?_)
  show wpAny _ _ (if (c == 0) = true then _ else _) _ _ s
  rw [if_neg (by simpa using hc)]
  refine wpAny_bind (HT.slicePart_ pl (wpAny_bind (HT.slicePart_ pu (wpAny_bind (wpAny_pure ?_)))))
  show wpAny _ _ (match Builtin.Slice.sliceAdjust lo hi c (n : Int) with | (lo, hi) => pure (lo, c, Builtin.Slice.slicePlaces lo hi c)) _ _ s
  exact wpAny_pure h
theorem item3 {t sl : Addr} {items : List Value} {vl vu vs : Value} {lo hi : Option Int} {c : Int} {Q : Value → Shared → Prop} (ht : IsTup s.heap t items.toArray) (hs : s.heap.IsSliceOf sl vl vu vs) (pl : IsPart vl lo) (pu : IsPart vu hi) (ps : IsPart vs (some c)) (hc : c ≠ 0)
    (h1 : c ≠ 1) (h : Q (.ref s.heap.objs.size) { s with heap := s.heap.push { cls := .type "tuple", data := .seq (pk3 items lo hi c).toArray } }) (hz : (pk3 items lo hi c).length ≤ sizeLine) :
    wpAny (model prog w) A (getItem (.ref t) (.ref sl)) Q E s := by
  have fits : sizeOk (.seq (pk3 items lo hi c).toArray) := by
    show (pk3 items lo hi c).toArray.size ≤ sizeLine
    rw [List.size_toArray]
    exact hz
  have isl : s.TypeIs (.ref sl) "slice" := by
    obtain ⟨ob, g1, g2, _⟩ := id hs
    exact ⟨ob, g1, g2⟩
  unfold getItem
  try with_reducible refine wpAny_holding ?_
  first | refine wpAny_bind (wpAny_pure ?_) | skip
  refine wpAny_bind (wpAny_sequenceKey ht.typeIs (by decide) (wpAny_bind (wpAny_callSpecial?_slot (name := Str.ofString "__getitem__") ht.typeIs slot_tuple_getitem (wpAny_call_entry slot_tuple_getitem ht.typeIs entry_tuple_getitem ?_ (args_tuple_getitem _ _)))))
  show wpAny _ _ (Builtin.Tuple.tupleItemsOf (.ref t) >>= _) _ _ s
  refine wpAny_bind (tupleItemsOf_ ht (wpAny_bind (wpAny_typeOf isl ?_)))
  rw [if_pos (by decide)]
  refine wpAny_bind (applied3 hs pl pu ps hc ?_)
  have no : ¬ (((Builtin.Slice.sliceAdjust lo hi c items.toArray.size).1 == 0 && c == 1 && (Builtin.Slice.slicePlaces (Builtin.Slice.sliceAdjust lo hi c items.toArray.size).1 (Builtin.Slice.sliceAdjust lo hi c items.toArray.size).2 c) == items.toArray.size) = true) := fun q => by
    rw [Bool.and_eq_true, Bool.and_eq_true] at q
    exact h1 (eq_of_beq q.1.2)
  have e : ((List.range (Builtin.Slice.slicePlaces (Builtin.Slice.sliceAdjust lo hi c items.toArray.size).1 (Builtin.Slice.sliceAdjust lo hi c items.toArray.size).2 c)).filterMap fun (k : Nat) => items.toArray[((Builtin.Slice.sliceAdjust lo hi c items.toArray.size).1 + (k : Int) * c).toNat]?) = pk3 items lo hi c := by
    unfold pk3
    rw [List.size_toArray]
    simp only [List.getElem?_toArray]
  show wpAny _ _ (if ((Builtin.Slice.sliceAdjust lo hi c items.toArray.size).1 == 0 && c == 1 && (Builtin.Slice.slicePlaces (Builtin.Slice.sliceAdjust lo hi c items.toArray.size).1 (Builtin.Slice.sliceAdjust lo hi c items.toArray.size).2 c) == items.toArray.size) = true then _ else _) _ _ s
  rw [if_neg no, e]
  first
    | exact wpAny_bind (m := Builtin.Tuple.tupleExact _) (wpAny_newObj_type (wpAny_pure ⟨_, rfl, wpAny_pure h⟩) fits)
    | exact wpAny_bind (m := Builtin.Tuple.tupleExact _) (wpAny_newObj_type (wpAny_bind (wpAny_pure (wpAny_pure ⟨_, rfl, wpAny_pure h⟩))) fits)
    | exact wpAny_bind (wpAny_bind (m := Builtin.Tuple.tupleExact _) (wpAny_newObj_type (wpAny_pure (wpAny_pure ⟨_, rfl, wpAny_pure h⟩)) fits))
    | exact wpAny_bind (wpAny_bind (m := Builtin.Tuple.tupleExact _) (wpAny_newObj_type (wpAny_pure ⟨_, rfl, wpAny_pure h⟩) fits))
end
section
variable {X : Cx} {K : PySem.W.Frag} {e s3 : Expr} {lo hi : Option Expr} {te : TE} {tl th t3 : TO} {p3 pos : Pos}
def tSl3 (K : PySem.W.Frag) (te : TE) (tl th t3 : TO) : TE := fun σ H Q => te σ H fun x H1 => tl σ H1 fun l H2 => th σ H2 fun u H3 => t3 σ H3 fun c H4 => ∃ a xs k, x = .ref a ∧ c = some k ∧ SqT K H4 a xs ∧ k ≠ 0 ∧ k ≠ 1 ∧ (pk3 xs l u k).length ≤ sizeLine ∧
  ∀ p, H4 p = none → Q (.ref p) (upd H4 p (.tup (pk3 xs l u k)))
theorem pe_sl3 (hK : X.K = K) (he : PE X e te) (hl : PO X lo tl) (hu : PO X hi th) (h3 : PO X (some s3) t3) (ho : ∀ a b : Addr, ∃ ops, subscripted (Expr.Slice lo hi (some s3) p3) false (.ref a) (.ref b) = operate ops (getItem (.ref a) (.ref b)) := by exact fun _ _ => ⟨_, rfl⟩) : PE X (.Subscript e (.Slice lo hi (some s3) p3) pos) (tSl3 K te tl th t3) := by
  subst hK
  refine ⟨fun pins s σ H Q I h => Subscript_ (thn (he.run pins s σ H _ I h) fun v s1 ⟨x, H1, I1, r1, q1⟩ => wpAny_Slice (thn (hl.run pins s1 σ H1 _ I1 q1) fun vl s2 ⟨l, H2, I2, pl, q2⟩ => thn (hu.run pins s2 σ H2 _ I2 q2) fun vu s4 ⟨u, H3, I3, pu, q3⟩ =>
    thn (h3.run pins s4 σ H3 _ I3 q3) fun vc s5 ⟨c, H4, I4, pc, q4⟩ => ?_))⟩
  obtain ⟨a, xs, k, ex, ec, hx, k0, k1, hz, q⟩ := q4
  subst ex
  subst ec
  cases r1
  have I5 : Inv X pins σ H4 { s5 with heap := s5.heap.push { cls := .type "slice", data := .fields #[vl, vu, vc] } } := I4.kept (t' := s5.toks) fun b ob q => Heap.get?_push_of_some _ q
  obtain ⟨its, r, ht, _⟩ := I5.tuple hx
  have rv := pk3_vals r l u k
  show wpAny (model X.prog X.w) X.A (subscriptTail e (.Slice lo hi (some s3) p3) (.ref a) (.ref s5.heap.objs.size)) (EP X pins σ Q) X.xe { s5 with heap := s5.heap.push { cls := .type "slice", data := .fields #[vl, vu, vc] } }
  obtain ⟨ops, hops⟩ := ho a s5.heap.objs.size
  refine tail_any (ops := ops) ht.typeIs (slot_tuple_getitem.lookup) ?_ hops
  refine item3 ht (Heap.IsSliceOf.new _ vl vu vc) pl pu pc k0 k1 ?_ (by rw [← rv.length]; exact hz)
  refine ⟨.ref _, _, I5.laid (t' := s5.toks) (o := .tup (pk3 xs l u k)) (fun b ob q => Heap.get?_push_of_some _ q) (Nat.le_refl _) ?_, rfl, q _ (I5.hok.fresh (Nat.le_refl _))⟩
  exact ⟨hz, _, rv, IsTup.new _ _⟩
end
end Tx

/-! ### own rules: set(xs), xs a list of ints; sorted of it -/
namespace Tz
open PySem PySem.Spec PyProof.Rows L2
section
variable {P : Program} {w : World} {A : Around} {E : Value → Shared → Prop} {s : Shared}
/-- the new set, empty -/
abbrev nul (w : World) : Obj := { cls := .type "set", dict := none, data := .set #[] 0 (.fresh 0 0 (!w.params.followText "set-order")) }
/-- what the filling leaves behind -/
def Filled (w : World) (s : Shared) (ns : List Int) (s2 : Shared) : Prop := ∃ h' tk c, s2 = { s with heap := h', toks := tk } ∧ SetR w h' s.heap.objs.size (fun j => decide (j ∈ ns)) c ∧ c ≤ ns.length ∧ ∀ b o, s.heap.get? b = some o → h'.get? b = some o
theorem set_of_list {l : Addr} {items : Array Value} (ns : List Int) {Q : Value → Shared → Prop} (hh : A.handled = none) (hl : s.heap.IsList l items) (hit : IntsAre items.toList ns) (hb : ns.length + 1 < scanBound)
    (h : ∀ s2, Filled w s ns s2 → Q (.ref s.heap.objs.size) s2) : wpAny (model P w) A (call (.type "set") [.ref l]) Q E s := by
  have hisz : items.size = ns.length := by
    have q := IntsAre.length hit
    rwa [Array.length_toList] at q
  have hS : (s.heap.push (nul w)).get? s.heap.objs.size = some (nul w) := Heap.get?_push_size _ rfl
  have hlt : l < s.heap.objs.size := by
    obtain ⟨o, ho, _⟩ := hl
    exact Heap.lt_size ho
  obtain ⟨c, tl, hmro⟩ := F.called_set.mro
  have m1 := F.called_set.made
  have m2 := F.called_set.sub
  refine wpAny_call (codeAny_of_tree ?_)
  show wpAny _ _ (callAny (.type "set") _) _ _ _
  refine wpAny_pure ⟨Code.quiet_builtin _ (by decide +kernel), codeAny_builtin F.entry_type_call ?_⟩
  rw [Around.under_plain (weight_type_call_type "set" [.ref l] []) rfl]
  have m3 := F.called_set.notType
  have m4 := F.called_set.canCreate
  have m5 := F.typeCall_set_1 (.ref l)
  repeat (any_goals (first | assumption | wp_step))
  refine codeAny_mono (code_set_led1 (.ref l) (E := E) (Q₁ := fun obj s1 => obj = .ref s.heap.objs.size ∧ s1 = { s with heap := s.heap.push (nul w) }) ⟨rfl, rfl⟩) fun r s1 hr => ?_
  cases r with
  | error e => exact hr
  | ok fl =>
    cases fl with
    | next => exact hr.elim
    | brk => exact hr.elim
    | cont => exact hr.elim
    | ret obj =>
      obtain ⟨rfl, rfl⟩ := hr
      have hT : Shared.TypeIs { s with heap := s.heap.push (nul w) } (.ref s.heap.objs.size) "set" := ⟨_, hS, rfl⟩
      have m6 := F.called_set.init.lookup
      have m7 := F.called_set.init.bind (.ref s.heap.objs.size)
      repeat (any_goals (first | assumption | wp_step))
      refine codeAny_mono (codeAny_call_builtin (R := wants (fun r s2 => r = .none ∧ Filled w s ns s2) E) F.called_set.init.plain F.entry_set_init (check_set_init_1 hT ?_)) fun r2 s2 hr2 => ?_
      · obtain ⟨ol, hol, hcl, nl, hdl⟩ := hl
        obtain ⟨ocls, odict, odata, oslots⟩ := ol
        simp only at hcl hdl
        subst hcl
        subst hdl
        have hol' := Heap.get?_push_of_some (nul w) hol
        have q1 := F.sub_list_set
        have q2 := F.sub_list_frozenset
        have q3 : (Value.type "list" == Value.type "dict") = false := by decide
        have hl1 : (s.heap.push (nul w)).IsList l items := ⟨_, hol', rfl, nl, rfl⟩
        unfold Builtin.«set.__init__» noKeywords Builtin.Frozenset.updateFrom
        generalize hPI : pyIter = PI
        wp_walk
        subst hPI
        refine wpAny_pyIter_list hl1 ?_
        refine wpAny_bind (wpAny_runValue ?_)
        have hh3 : A.in1.in1.in1.handled = none := by simp [hh]
        have n1 : l ≠ (s.heap.push (nul w)).objs.size := by
          rw [Heap.size_push]
          exact Nat.ne_of_lt (Nat.lt_succ_of_lt hlt)
        have n2 : s.heap.objs.size ∉ [(s.heap.push (nul w)).objs.size, l] := by
          rw [Heap.size_push]
          simp only [List.mem_cons, List.not_mem_nil, or_false, not_or]
          exact ⟨Nat.ne_of_lt (Nat.lt_succ_self _), Nat.ne_of_gt hlt⟩
        have vals : ∀ (i : Nat) (v : Value), items[i]? = some v → ∃ k t, ns[i]? = some k ∧ v = .int k t := fun i v hv => by
          have hi : i < ns.length := by rw [← hisz]; exact (Array.getElem?_eq_some_iff.mp hv).1
          obtain ⟨t, e⟩ := PyProof.Rows.IntsAre.int_at hit i v (by rw [Array.getElem?_toList]; exact hv)
          exact ⟨ns[i], t, List.getElem?_eq_getElem hi, by rw [e, List.getD_eq_getElem?_getD, List.getElem?_eq_getElem hi]; rfl⟩
        refine set_update_ints ((Walks.list hh3 _ l n1 items).toS) s.heap.objs.size n2 ns hisz hb vals (items.size - 0) 0 _ (by omega) (Nat.zero_le _)
          ⟨⟨_, Heap.get?_push_size _ rfl, rfl, rfl⟩, (hl1.push _)⟩ ⟨0, Nat.le_refl 0, setR_new_at (Heap.get?_push_of_some _ hS)⟩ fun s' c' hm hc' hS' => ?_
        obtain ⟨h', g2, d', tk', os'⟩ := s'
        obtain rfl : g2 = s.gens := hm.gens
        obtain rfl : d' = s.drawn := hm.drawn
        obtain rfl : os' = s.os := hm.os
        show wpAny _ _ _ _ _ _
        refine wpAny_pure ?_
        show wpAny _ _ (ret Value.none) _ _ _
        rw [hisz] at hc'
        refine wpAny_pure ⟨rfl, h', tk', c', rfl, hS', hc', fun b o e => ?_⟩
        have b0 : b < s.heap.objs.size := Heap.lt_size e
        refine hm.heap b o ?_ (Heap.get?_push_of_some _ (Heap.get?_push_of_some _ e))
        rw [Heap.size_push]
        simp only [List.mem_cons, List.not_mem_nil, or_false, not_or]
        exact ⟨Nat.ne_of_lt b0, Nat.ne_of_lt (Nat.lt_succ_of_lt b0)⟩
      · cases r2 with
        | error e => exact hr2
        | ok fl2 =>
          cases fl2 with
          | next => exact hr2.elim
          | brk => exact hr2.elim
          | cont => exact hr2.elim
          | ret r =>
            obtain ⟨rfl, hf⟩ := hr2
            have hf2 := hf
            obtain ⟨h', tk, c, rfl, _⟩ := hf2
            repeat (any_goals (first | assumption | wp_step))
            exact h _ hf
end
section
variable {X : Cx} {K : PySem.W.Frag} {w : World}
/-- set(xs), xs a list of ints -/
def rSetLI (K : PySem.W.Frag) (w : World) : List V → Hp → VK → Prop := fun xs H Q => ∃ (l : Addr) (ns : List Int), xs = [V.ref l] ∧ SqL K H l (ns.map V.int) ∧ ns.length + 1 < scanBound ∧
  ∀ p c, H p = none → c ≤ ns.length → Q (.ref p) (upd H p (SetO w p (fun j => decide (j ∈ ns)) c))
theorem cr_setLI (h : X.K = K) (hw : X.w = w) (hc : X.calm = true) : CallR X (.type "set") (rSetLI K w) := by
  subst h
  subst hw
  intro pins s σ H xs us Q I r h
  obtain ⟨l, ns, rfl, hl, hb, q⟩ := h
  rw [Vals.ref1 r]
  obtain ⟨its, rv, pl, hz⟩ := I.list hl
  refine set_of_list (P := X.prog) (w := X.w) ns (I.ok.hd hc) pl.isList rv.ints hb fun s2 hf => ?_
  obtain ⟨h', tk, c, rfl, R, hcl, hk⟩ := hf
  exact ⟨.ref _, upd H s.heap.objs.size (SetO X.w s.heap.objs.size (fun j => decide (j ∈ ns)) c), I.laid (t' := tk) hk (Nat.le_refl _) (setO_new R), rfl, q _ c (I.hok.fresh (Nat.le_refl _)) hcl⟩
theorem cr_sortedSet' (hw : X.w = w) (hc : X.calm = true) : CallR X (.builtin "sorted") (rSortedSet w) := by
  subst hw
  exact cr_sortedSet hc
end
end Tz

namespace Bx
open PySem PySem.Spec PyProof.Rows L2
def mf (I O L : Int) (ot rt : Addr) : List (Str × V) := putF "rows" (.ref rt) (putF "opening" (.ref ot) (putF "lead" (.int L) (putF "outputs" (.int O) (putF "inputs" (.int I) []))))
theorem mf_I (I O L : Int) (a b : Addr) : (mf I O L a b).lookup ("inputs" : Str) = some (.int I) := by
  unfold mf
  rw [lookup_putF, if_neg (by decide +kernel), lookup_putF, if_neg (by decide +kernel), lookup_putF, if_neg (by decide +kernel), lookup_putF, if_neg (by decide +kernel), lookup_putF, if_pos rfl]
theorem mf_O (I O L : Int) (a b : Addr) : (mf I O L a b).lookup ("outputs" : Str) = some (.int O) := by
  unfold mf
  rw [lookup_putF, if_neg (by decide +kernel), lookup_putF, if_neg (by decide +kernel), lookup_putF, if_neg (by decide +kernel), lookup_putF, if_pos rfl]
theorem mf_L (I O L : Int) (a b : Addr) : (mf I O L a b).lookup ("lead" : Str) = some (.int L) := by
  unfold mf
  rw [lookup_putF, if_neg (by decide +kernel), lookup_putF, if_neg (by decide +kernel), lookup_putF, if_pos rfl]
theorem mf_o (I O L : Int) (a b : Addr) : (mf I O L a b).lookup ("opening" : Str) = some (.ref a) := by
  unfold mf
  rw [lookup_putF, if_neg (by decide +kernel), lookup_putF, if_pos rfl]
theorem mf_r (I O L : Int) (a b : Addr) : (mf I O L a b).lookup ("rows" : Str) = some (.ref b) := by
  unfold mf
  rw [lookup_putF, if_pos rfl]
structure MchC (K : PySem.W.Frag) (C : Addr) : Prop where
  cl : Cls K C
  nI : NoAttr K C "inputs"
  nO : NoAttr K C "outputs"
  nL : NoAttr K C "lead"
  no : NoAttr K C "opening"
  nr : NoAttr K C "rows"
/-- rows of pairs -/
structure RP (mk : List V → HO) (H : Hp) (as : List Addr) (c : List (List (Int × Int))) : Prop where
  len : as.length = c.length
  g : ∀ (i : Nat) (a : Addr), as[i]? = some a → ∃ (bs : List Addr) (row : List (Int × Int)), c[i]? = some row ∧ H a = some (mk (bs.map V.ref)) ∧ bs.length = row.length ∧ ∀ (j : Nat) (b : Addr), bs[j]? = some b → ∃ t l, row[j]? = some (t, l) ∧ H b = some (.tup [.int t, .int l])
theorem RP.same {mk : List V → HO} {H H' : Hp} {as : List Addr} {c : List (List (Int × Int))} (s : Same H H') (h : RP mk H as c) : RP mk H' as c := ⟨h.len, fun i a e => by
  obtain ⟨bs, row, h1, h2, h3, h4⟩ := h.g i a e
  exact ⟨bs, row, h1, s _ _ h2, h3, fun j b hb => by obtain ⟨t, l, h5, h6⟩ := h4 j b hb; exact ⟨t, l, h5, s _ _ h6⟩⟩⟩
def LPr (H : Hp) (r : Addr) (as : List Addr) (c : List (List (Int × Int))) : Prop := H r = some (.lst (as.map V.ref)) ∧ RP .lst H as c
theorem LPr.same {H H' : Hp} {r : Addr} {as : List Addr} {c : List (List (Int × Int))} (s : Same H H') (h : LPr H r as c) : LPr H' r as c := ⟨s _ _ h.1, h.2.same s⟩
def MchAt (C : Addr) (H : Hp) (x : Addr) (I O L : Int) (op : List Int) (c : List (List (Int × Int))) : Prop := ∃ (dx ot rt : Addr) (as : List Addr), H x = some (.ins C dx (mf I O L ot rt)) ∧ TupI H ot op ∧ H rt = some (.tup (as.map V.ref)) ∧ RP .tup H as c
theorem mch_same {C : Addr} {H H' : Hp} {x : Addr} {I O L : Int} {op : List Int} {c : List (List (Int × Int))} (s : Same H H') (h : MchAt C H x I O L op c) : MchAt C H' x I O L op c := by
  obtain ⟨dx, ot, rt, as, e1, e2, e3, e4⟩ := h
  exact ⟨dx, ot, rt, as, s _ _ e1, s _ _ e2, s _ _ e3, e4.same s⟩
/-- objects that are no lists stay where only lists change -/
theorem RP.keepT {H H' : Hp} {as : List Addr} {c : List (List (Int × Int))} (k : ∀ b xs, H b = some (.tup xs) → H' b = some (.tup xs)) (h : RP .tup H as c) : RP .tup H' as c := ⟨h.len, fun i a e => by
  obtain ⟨bs, row, h1, h2, h3, h4⟩ := h.g i a e
  exact ⟨bs, row, h1, k _ _ h2, h3, fun j b hb => by obtain ⟨t, l, h5, h6⟩ := h4 j b hb; exact ⟨t, l, h5, k _ _ h6⟩⟩⟩
/-- what holds of a machine -/
structure Vm (I O L : Int) (op : List Int) (c : List (List (Int × Int))) : Prop where
  i1 : 1 ≤ I
  o1 : 1 ≤ O
  l0 : -3 ≤ L
  l1 : L ≤ 2
  op_len : (op.length : Int) = max 0 (-L)
  ne : c ≠ []
  w : ∀ r ∈ c, (r.length : Int) = I
  st : ∀ r ∈ c, ∀ p ∈ r, 0 ≤ p.1 ∧ p.1 < (c.length : Int)
  op_in : ∀ z ∈ op, 0 ≤ z ∧ z < O
  em : ∀ r ∈ c, ∀ p ∈ r, 0 ≤ p.2 ∧ p.2 < O
end Bx
/-! own rule: a tuple times 1 is that tuple -/
namespace Bx
open PySem PySem.Spec PyProof.Rows L2
theorem mul_one (l : Addr) (items : Array Value) (n : Nat) (dd : Option Addr) (sl : Array (Option Value)) (u : Tok) :
    Meets (Builtin.«tuple.__mul__» ⟨[.ref l, .int 1 u], []⟩) (fun _ R s => s.heap.get? l = some { cls := .type "tuple", dict := dd, data := .seq items n, slots := sl } ∧ R (.ok (.ret (.ref l))) s) := .of_wp fun prog w A R s h => by
  obtain ⟨hp, g, d, tk, os⟩ := s
  obtain ⟨hl, h⟩ := h
  have q1 := AutoSeq1.idx_int
  wp_walk using AutoSeq1.wpAny_loadPart' hl
  repeat (first
    | (refine wpAny_ite_true (decide_eq_true (by simp)) ?_; wp_walk using AutoSeq1.wpAny_loadPart' hl)
    | (refine wpAny_ite_false (decide_eq_false (by simp)) ?_; wp_walk using AutoSeq1.wpAny_loadPart' hl))
  exact ⟨_, rfl, h⟩
def rRep1 (K : PySem.W.Frag) : R2 := fun x y H Q => ∃ l k xs, x = .ref l ∧ y = .int k ∧ SqT K H l xs ∧ xs ≠ [] ∧ 1 ≤ k ∧ k ≤ 1000 ∧ xs.length ≤ 1000 ∧ (k = 1 → Q (.ref l) H) ∧ (2 ≤ k → ∀ p, H p = none → Q (.ref p) (upd H p (.tup (List.replicate k.toNat xs).flatten)))
theorem op_rep1K {X : Cx} {K : PySem.W.Frag} (h : X.K = K) : OpR X (binaryOp .Mult) (rRep1 K) := by
  subst h
  intro pins s σ H x y v u Q I rx ry h
  obtain ⟨l, k, xs, ex, ey, hT, hne, h1, h2, hz, q1, q2⟩ := h
  by_cases c : k = 1
  · subst c
    subst ex
    subst ey
    cases rx
    obtain ⟨t, rfl⟩ := ry
    obtain ⟨its, r, ⟨⟨cls, dd, data, sl⟩, ho, hc, n, hd⟩, _⟩ := I.tuple hT
    simp only at hc hd
    subst hc hd
    refine wpAny_binaryOp_repeat_ref (T := "tuple") (U := "int") (by decide) ⟨_, ho, rfl⟩ (fun s' => typeIs_int s' 1 t) noFill_tuple_mul F.fills_int_mul F.slot_int_rmul repeat_tuple F.slot_int_index.lookup
      (call_meets F.slot_int_rmul (typeIs_int s 1 t) F.entry_int_rmul (F.args_int_rmul_2 _ _) (int_rmul_tuple 1 t l its.toArray n dd sl)
        ⟨ho, rfl, ⟨_, ho, rfl⟩, call_meets F.slot_tuple_mul ⟨_, ho, rfl⟩ F.entry_tuple_mul (F.args_tuple_mul_2 _ _) (mul_one l its.toArray n dd sl t) ⟨ho, ?_⟩⟩)
    exact ⟨.ref l, H, I, rfl, q1 rfl⟩
  · exact op_repT pins s σ H x y v u Q I rx ry ⟨l, k, xs, ex, ey, hT, hne, by omega, h2, hz, q2 (by omega)⟩
end Bx
namespace Bx
open PySem PySem.Spec PyProof.Rows L2
section
variable {X : Cx} {K : PySem.W.Frag}
theorem pe_revLK {e : Expr} {te : TE} {k : Nat} {p1 p2 p3 pos : Pos} (h : X.K = K) (he : PE X e te) : PE X (.Subscript e (.Slice none none (some (.UnaryOp .USub (.Constant (.int 1) k p1) p2)) p3) pos) (tRevL K te) := by
  subst h
  exact pe_revL he
end
section
variable {X : Cx} {k : Nat} {C f : Addr} {fd : FuncData} {ps : List Str} {sp : Sp} {W : WX} {m fl : Str} {p pos apos : Pos} {e o : Expr} {es : List Expr} {ta : TE} {t : TA}
/-- o.f as a target -/
def gFld (K : PySem.W.Frag) (to : TE) (f : Str) : TG := fun v σ H Q => to σ H fun x H2 => ∃ a C dx fs, x = .ref a ∧ H2 a = some (.ins C dx fs) ∧ Cls K C ∧ NoAttr K C f ∧ fs.length < 1000 ∧ Q σ (upd H2 a (.ins C dx (putF f v fs)))
theorem pg_fld (ho : PE X o ta) (ha : ∀ v, assign (.Attribute o fl pos) X.env v = (do
      let ov ← holding [v] (eval o X.env)
      standAt pos.atName
      holding [v, ov] (setAttr ov fl v)
      release [v, ov] []) := by intro _; rfl) : PG X (.Attribute o fl pos) (gFld X.K ta fl) := by
  refine ⟨fun pins s σ H v u Q I r h => ?_⟩
  rw [ha]
  refine wpAny_bind (wpAny_holding (thn (ho.run pins s σ H _ I h) fun ov s1 ⟨x, H1, I1, r1, a, C, dx, fs, ex, ea, c, n, l, q⟩ => ?_))
  subst ex
  obtain rfl : ov = Value.ref a := r1
  refine wpAny_bind (wpAny_standAt (wpAny_bind (wpAny_holding (setattr_ok I1 ea c n l r fun s3 I3 => ?_))))
  exact wpAny_release ⟨σ, _, I3, q⟩
/-- o.m(e) where the method may raise, in a try -/
def tMethX (C : Addr) (m : Str) (sp : Sp) (E : L2.St → XK) (ta : TE) (t : TA) : TE := fun σ H Q => ta σ H fun x H1 => ∃ a dx fs, x = .ref a ∧ H1 a = some (.ins C dx fs) ∧ fs.lookup m = none ∧ t σ H1 fun vs H2 => sp (x :: vs) H2 Q (E σ)
theorem pe_methX {pl : Sem Bool} (he : PE X o ta) (c : Cls X.K C) (hm : Meth X.K C m f) (F : FnOk X.prog X.w X.K X.mg X.base (L2.CX X.prog X.w) k f fd ps sp) (hr : Room k X.A) (hb : Binds X.K fd ps []) (tk : Takes X W) (ha : PA X (e :: es) t)
    (hst : starEach (e :: es) X.env = (false, eval e X.env) :: starEach es X.env := by rfl) (hpl : (backTo pos (starEach es X.env)).any (·.1) = false := by rfl)
    (ht : eval (.Call (.Attribute o m apos) (e :: es) [] pos) X.env = (do
      let ov ← eval o X.env
      standAt apos.atName
      let (f, first) ← holding [ov] (getMethod ov m pl)
      callWith pos f first (backTo pos (starEach (e :: es) X.env)) (backToKw pos (keywordEach [] X.env))) := by rfl) :
    PE X (.Call (.Attribute o m apos) (e :: es) [] pos) (tMethX C m sp (WE W) ta t) := by
  refine ⟨fun pins s σ H Q I h => ?_⟩
  refine PySem.W.methodCall_KW (pl := pl) (thn (he.run pins s σ H _ I h) fun u s1 ⟨x, H1, I1, rx, a, dx, fs, ex, ea, l, q⟩ => ?_) ht
  subst ex
  obtain rfl : u = Value.ref a := rx
  refine getmeth_ok I1 ea c hm l ?_
  refine PySem.W.callWith_K (first := [.ref a]) (h₀ := X.base) I.ok.mod.kin hm.kp (thn (ha.run pos pins s1 σ H1 _ I1 q) fun us s2 ⟨vs, H2, I2, r, q2⟩ => ⟨I2.kIn, ?_⟩) hst hpl
  exact run_fnS (us := .ref a :: us) (vs := .ref a :: vs) F hr hb (passAt tk σ) I2 (.cons rfl r) q2
end
/-- a journal's attributes -/
def jf (ma : Addr) (sp : Int) (tx : Str) (st tu : Int) (an : Addr) : List (Str × V) := [("machine", .ref ma), ("spacing", .int sp), ("text", .str tx), ("state", .int st), ("turns", .int tu), ("answers", .ref an)]
theorem jf_text (ma sp tx st tu an t') : putF "text" (.str t') (jf ma sp tx st tu an) = jf ma sp t' st tu an := by rfl
theorem jf_state (ma sp tx st tu an t') : putF "state" (.int t') (jf ma sp tx st tu an) = jf ma sp tx t' tu an := by rfl
theorem jf_turns (ma sp tx st tu an t') : putF "turns" (.int t') (jf ma sp tx st tu an) = jf ma sp tx st t' an := by rfl
theorem jl_m (ma sp tx st tu an) : (jf ma sp tx st tu an).lookup ("machine" : Str) = some (V.ref ma) := by rfl
theorem jl_sp (ma sp tx st tu an) : (jf ma sp tx st tu an).lookup ("spacing" : Str) = some (V.int sp) := by rfl
theorem jl_tx (ma sp tx st tu an) : (jf ma sp tx st tu an).lookup ("text" : Str) = some (V.str tx) := by rfl
theorem jl_st (ma sp tx st tu an) : (jf ma sp tx st tu an).lookup ("state" : Str) = some (V.int st) := by rfl
theorem jl_tu (ma sp tx st tu an) : (jf ma sp tx st tu an).lookup ("turns" : Str) = some (V.int tu) := by rfl
theorem jl_an (ma sp tx st tu an) : (jf ma sp tx st tu an).lookup ("answers" : Str) = some (V.ref an) := by rfl
theorem jl_hear (ma sp tx st tu an) : (jf ma sp tx st tu an).lookup ("hear" : Str) = none := by rfl
theorem jf_new (ma : Addr) (sp : Int) (tx : Str) (an : Addr) : putF "answers" (.ref an) (putF "turns" (.int 0) (putF "state" (.int 0) (putF "text" (.str tx) (putF "spacing" (.int sp) (putF "machine" (.ref ma) []))))) = jf ma sp tx 0 0 an := by rfl
structure JrnC (K : PySem.W.Frag) (C : Addr) : Prop where
  cl : Cls K C
  nm : NoAttr K C "machine"
  nsp : NoAttr K C "spacing"
  ntx : NoAttr K C "text"
  nst : NoAttr K C "state"
  ntu : NoAttr K C "turns"
  nan : NoAttr K C "answers"
/-- all but some objects stay -/
def Kpl (l : List Addr) (H H' : Hp) : Prop := ∀ b o, b ∉ l → H b = some o → H' b = some o
theorem Kpl.refl (l : List Addr) (H : Hp) : Kpl l H H := fun _ _ _ h => h
theorem Kpl.trans {l : List Addr} {H H1 H2 : Hp} (a : Kpl l H H1) (b : Kpl l H1 H2) : Kpl l H H2 := fun x o n h => b _ _ n (a _ _ n h)
theorem Kpl.same {l : List Addr} {H H1 : Hp} (s : Same H H1) : Kpl l H H1 := fun x o _ h => s _ _ h
theorem Kpl.own {l : List Addr} {H : Hp} {a : Addr} {o : HO} (h : a ∈ l) : Kpl l H (upd H a o) := fun x o' n hx => by rw [upd_ne (fun z => n (by rw [z]; exact h))]; exact hx
theorem Kpl.more {l l' : List Addr} {H H1 : Hp} (k : Kpl l H H1) (h : ∀ a ∈ l, a ∈ l') : Kpl l' H H1 := fun x o n hx => k _ _ (fun z => n (h _ z)) hx
theorem sat {H H' : Hp} {a : Addr} {o : HO} (s : Same H H') (h : H a = some o) : H' a = some o := s _ _ h
end Bx
namespace Dm
open PySem PySem.Builtin TL
def pad (k : Nat) (l : List Nat) : List Nat := List.replicate (k - l.length) 48 ++ l
theorem pad_snoc (k : Nat) (l : List Nat) (c : Nat) : pad (k + 1) (l ++ [c]) = pad k l ++ [c] := by
  unfold pad
  rw [List.length_append, show k + 1 - (l.length + [c].length) = k - l.length by simp only [List.length_singleton]; omega, List.append_assoc]
theorem numL_pad : ∀ (k q r : Nat), 1 ≤ q → r < 10 ^ (k + 1) → numL (q * 10 ^ (k + 1) + r) = numL q ++ pad (k + 1) (numL r)
  | 0, q, r, hq, hr => by
    have hr : r < 10 := by simpa using hr
    rw [numL_step (by omega), show (q * 10 ^ (0 + 1) + r) / 10 = q by omega, show (q * 10 ^ (0 + 1) + r) % 10 = r by omega, numL_lt hr]
    rfl
  | k + 1, q, r, hq, hr => by
    have e1 : q * 10 ^ (k + 1 + 1) + r = (q * 10 ^ (k + 1)) * 10 + r := by rw [Nat.pow_succ 10 (k + 1), Nat.mul_assoc]
    have hp : 1 ≤ 10 ^ (k + 1) := Nat.one_le_iff_ne_zero.mpr (Nat.pos_iff_ne_zero.mp (Nat.pow_pos (by decide)))
    have hq1 : 1 ≤ q * 10 ^ (k + 1) := Nat.mul_le_mul hq hp
    have hr2 : r / 10 < 10 ^ (k + 1) := by
      rw [Nat.pow_succ 10 (k + 1)] at hr
      omega
    rw [e1, numL_step (by omega), show ((q * 10 ^ (k + 1)) * 10 + r) / 10 = q * 10 ^ (k + 1) + r / 10 by omega, show ((q * 10 ^ (k + 1)) * 10 + r) % 10 = r % 10 by omega, numL_pad k q (r / 10) hq hr2]
    by_cases h : r < 10
    · rw [numL_lt h, show r / 10 = 0 by omega, show r % 10 = r by omega, numL_lt (by decide : (0 : Nat) < 10)]
      unfold pad
      simp only [List.length_singleton]
      rw [show k + 1 + 1 - 1 = (k + 1 - 1) + 1 by omega, List.replicate_succ', List.append_assoc, List.append_assoc]
    · rw [numL_step (show 10 ≤ r by omega), pad_snoc, List.append_assoc]
theorem zf {r : Nat} (hr : r < 10 ^ 18) : tl (Txt.zfill (Str.ofString (toString ((r : Nat) : Int))) 18) = pad 18 (numL r) := by
  have hl : (Str.ofString (toString ((r : Nat) : Int))).length = (numL r).length := by rw [len_tl, tl_num]
  have hle := numL_len (by decide : 0 < 18) hr
  unfold Txt.zfill
  rw [hl]
  by_cases h : (18 : Int) ≤ ((numL r).length : Nat)
  · rw [if_pos h, tl_num]
    unfold pad
    rw [show 18 - (numL r).length = 0 by omega]
    rfl
  · rw [if_neg h]
    have hz : ∀ (x : Str) (m : Nat), (∀ c, x.cps[0]? = some c → 48 ≤ c) → tl (zfilled x m) = List.replicate m 48 ++ tl x := by
      intro x m hc
      unfold zfilled
      have hp : tl (Builtin.Str.padded x m 0 48) = List.replicate m 48 ++ tl x := by
        unfold Builtin.Str.padded
        show (Array.replicate m 48 ++ x.cps ++ Array.replicate 0 48).toList = _
        simp [tl]
      split
      · rename_i e; have := hc _ e; omega
      · rename_i e; have := hc _ e; omega
      · exact hp
    rw [hz, tl_num]
    · unfold pad
      rw [show (18 : Int).toNat - (numL r).length = 18 - (numL r).length from rfl]
    · intro c hc
      have : c ∈ numL r := by
        rw [← tl_num]
        have := Array.getElem?_eq_some_iff.mp hc
        obtain ⟨h1, h2⟩ := this
        exact Array.mem_toList_iff.mpr (by rw [← h2]; exact Array.getElem_mem h1)
      exact (numL_digits r c this).1
end Dm
namespace Bx
open PySem PySem.Spec PyProof.Rows L2
/-- for c in text -/
theorem for_str {x : Str} {g : TG} {tb : TS} {D : Ends} {σ : L2.St} {H : Hp} (Pv : Nat → L2.St → Hp → Prop) (h0 : Pv 0 σ H)
    (hs : ∀ i c σ H, x.cps[i]? = some c → Pv i σ H → g (.str ⟨#[c]⟩) σ H fun σ2 H2 => tb { D with nx := Pv (i + 1), ct := Pv (i + 1), bk := D.nx } σ2 H2) (hd : ∀ σ H, Pv x.cps.size σ H → D.nx σ H) :
    ∃ W : Nat → Nat → L2.St → Hp → Prop, (∃ m, W 0 m σ H) ∧ ∀ i m σ H, W i m σ H →
      ((Its x).stop i H ∧ D.nx σ H) ∨ ((Its x).go i H ∧ ∃ N : L2.St → Hp → Prop, (∀ σ' H', N σ' H' → ∃ m', m' < m ∧ W (i + 1) m' σ' H') ∧ ∀ v H', (Its x).yld i H v H' → g v σ H' fun σ2 H2 => tb { D with nx := N, ct := N, bk := D.nx } σ2 H2) := by
  refine ⟨fun i m σ H => m = x.cps.size - i ∧ i ≤ x.cps.size ∧ Pv i σ H, ⟨x.cps.size, by simp, Nat.zero_le _, h0⟩, ?_⟩
  rintro i m σ H ⟨rfl, hi, p⟩
  by_cases hlt : i < x.cps.size
  · refine .inr ⟨hlt, Pv (i + 1), fun σ' H' p' => ⟨x.cps.size - (i + 1), by omega, rfl, hlt, p'⟩, fun v H' y => ?_⟩
    obtain ⟨e, c, hc, rfl⟩ := y
    subst e
    exact hs i c σ _ hc p
  · have e : i = x.cps.size := by omega
    subst e
    exact .inl ⟨Nat.le_refl _, hd _ _ p⟩
end Bx
namespace Bx
open PySem PySem.Spec PyProof.Rows L2
/-- {k: v}, k a tuple of numbers and texts -/
def dispQ (p : Addr) (Q : VK) : List (V × V) → Hp → Prop
  | [(y, z)], H2 => ∃ (b : Addr) (ks : List L2.Key), y = .ref b ∧ H2 b = some (.tup (ks.map kV)) ∧ H2 p = some (.dT []) ∧ Q (.ref p) (upd H2 p (.dT [(ks, z)]))
  | _, _ => False
def tDispT (tk tv : TE) : TE := fun σ H Q => ∀ p, H p = none → tk σ (upd H p (.dT [])) fun y H1 => tv σ H1 fun z H2 => dispQ p Q [(y, z)] H2
theorem pe_dispT {X : Cx} {pos : Pos} {k v : Expr} {tk tv : TE} (hu : X.A.units + 1 < cLine) (hk : PE X k tk) (hv : PE X v tv) : PE X (.Dict [some k] [v] pos) (tDispT tk tv) := by
  refine ⟨fun pins s σ H Q I h => ?_⟩
  refine wpAny_Dict_any rfl rfl (by simp) (by show 1 ≤ 15; decide) ?_
  have hf : H s.heap.objs.size = none := I.hok.fresh (Nat.le_refl _)
  have h1 := h s.heap.objs.size hf
  have I1 : Inv X pins σ (upd H s.heap.objs.size (.dT [])) { heap := s.heap.push { cls := .type "dict", data := .dict #[] }, gens := s.gens, drawn := s.drawn, toks := s.toks, os := s.os } := by
    refine I.laid (t' := s.toks) (fun b o hb => ?_) (Nat.le_refl _) (dt_empty s.heap ?_)
    · exact Heap.get?_push_of_some _ hb
    · exact I.big
  refine wpAny_mono ((pps_cons hk hv pps_nil).run pins _ σ _ (dispQ s.heap.objs.size Q) I1 h1) (fun vs s1 hq => ?_) (fun _ _ z => z)
  obtain ⟨ps, H2, I2, rv, hq⟩ := hq
  match ps, rv, hq with
  | [(y, z)], rv, ⟨b, ks, e, eb, ed, q⟩ =>
    subst e
    obtain ⟨_, hsm, xs, kt, D⟩ := dt_of I2.hok ed
    cases kt
    cases rv with
    | cons r0 rt =>
      rename_i u0 us0
      cases rt
      obtain ⟨u, r⟩ := u0
      obtain ⟨ra, rb⟩ := r0
      cases ra
      unfold storeAll
      simp only [List.forIn_cons, List.forIn_nil]
      refine wpAny_bind (wpAny_bind (wpAny_dictSet_heap (knd := tupleKind (mixKind X.prog X.w)) (Nat.lt_of_le_of_lt (Nat.le_succ _) hu) (key_of I2.hok eb) D (fun h' D' sb => ?_) (by show 0 ≤ sizeLine; exact Nat.zero_le _)))
      refine wpAny_pure ?_
      refine wpAny_pure ?_
      refine ⟨.ref s.heap.objs.size, upd H2 s.heap.objs.size (.dT [(ks, z)]), ?_, rfl, q⟩
      refine d_write I2 (by rw [ed]; exact True.intro) sb ?_ ?_
      · obtain ⟨o, es, ep, g, _⟩ := D'
        exact ⟨o, g⟩
      · have nb : b ≠ s.heap.objs.size := fun e => by rw [e, ed] at eb; cases eb
        refine ⟨by show 1 ≤ sizeLine; decide, hsm, [(ks, b, r)], .cons ⟨rfl, by rw [upd_ne nb]; exact eb, rb⟩ .nil, ?_⟩
        obtain ⟨o, es, ep, g1, g2, g3, g4, _, g5⟩ := D'
        exact ⟨o, es, ep, g1, g2, g3, g4, g5⟩
theorem op_notInDK {X : Cx} {K : PySem.W.Frag} (h : X.K = K) (hu : X.A.units + 65 < cLine) : OpR X (compareOp .NotIn) (rNotInD K) := by
  subst h
  exact op_notInD hu
end Bx
namespace Gr
/-! Directed graphs as rows; what a depth-first order and components by it are. -/
abbrev G := List (List Nat)
def row (g : G) (u : Nat) : List Nat := g.getD u []
def E (g : G) (u v : Nat) : Prop := v ∈ row g u
inductive Rc (g : G) : Nat → Nat → Prop
  | refl (u : Nat) : Rc g u u
  | step {u v w : Nat} : E g u v → Rc g v w → Rc g u w
theorem Rc.one {g : G} {u v : Nat} (h : E g u v) : Rc g u v := .step h (.refl v)
theorem Rc.trans {g : G} {u v w : Nat} (h : Rc g u v) (k : Rc g v w) : Rc g u w := by
  induction h with
  | refl _ => exact k
  | step e _ ih => exact .step e (ih k)
theorem Rc.snoc {g : G} {u v w : Nat} (h : Rc g u v) (k : E g v w) : Rc g u w := h.trans (.one k)
/-- a way that leaves a set crosses its border -/
theorem Rc.cross {g : G} {S : Nat → Prop} {u v : Nat} (h : Rc g u v) (hu : S u) (hv : ¬ S v) : ∃ b y, S b ∧ E g b y ∧ ¬ S y ∧ Rc g u b ∧ Rc g y v := by
  induction h with
  | refl _ => exact absurd hu hv
  | @step a b c e r ih =>
    by_cases hb : S b
    · obtain ⟨x, y, h1, h2, h3, h4, h5⟩ := ih hb hv
      exact ⟨x, y, h1, h2, h3, .step e h4, h5⟩
    · exact ⟨a, b, hu, e, hb, .refl _, r⟩
def Ok (g : G) : Prop := ∀ u, ∀ v ∈ row g u, v < g.length
theorem Ok.rc {g : G} (h : Ok g) {u v : Nat} (r : Rc g u v) (hu : u < g.length) : v < g.length := by
  induction r with
  | refl _ => exact hu
  | step e _ ih => exact ih (h _ _ e)
/-- mutual -/
def Mu (g : G) (u v : Nat) : Prop := Rc g u v ∧ Rc g v u
theorem Mu.symm {g : G} {u v : Nat} (h : Mu g u v) : Mu g v u := ⟨h.2, h.1⟩
theorem Mu.refl (g : G) (u : Nat) : Mu g u u := ⟨.refl _, .refl _⟩
theorem Mu.trans {g : G} {u v w : Nat} (h : Mu g u v) (k : Mu g v w) : Mu g u w := ⟨h.1.trans k.1, k.2.trans h.2⟩

/-- the last one in a list -/
theorem last_split {P : Nat → Prop} : ∀ {l : List Nat}, (∃ x ∈ l, P x) → ∃ A w B, l = A ++ w :: B ∧ P w ∧ ∀ b ∈ B, ¬ P b
  | [], h => by obtain ⟨_, h, _⟩ := h; cases h
  | y :: l, h => by
    by_cases k : ∃ x ∈ l, P x
    · obtain ⟨A, w, B, e, h1, h2⟩ := last_split k
      exact ⟨y :: A, w, B, by rw [e]; rfl, h1, h2⟩
    · obtain ⟨x, hx, p⟩ := h
      rcases List.mem_cons.mp hx with rfl | hx
      · exact ⟨[], x, l, rfl, p, fun b hb z => k ⟨b, hb, z⟩⟩
      · exact absurd ⟨x, hx, p⟩ k

/-! ### the order of leaving -/
structure Dfs (g : G) (ord : List Nat) (stk : List (Nat × Nat)) : Prop where
  nd : (ord ++ stk.map (·.1)).Nodup
  lt : ∀ u ∈ ord ++ stk.map (·.1), u < g.length
  ch : stk.Pairwise fun a b => Rc g b.1 a.1
  fo : ∀ x ∈ stk, x.2 ≤ (row g x.1).length ∧ ∀ i y, i < x.2 → (row g x.1)[i]? = some y → y ∈ ord ++ stk.map (·.1)
  bl : ∀ b ∈ ord, ∀ y ∈ row g b, y ∈ ord ++ stk.map (·.1)
  sp : ∀ A u B, ord = A ++ u :: B → ∀ b ∈ A ++ [u], ∀ y ∈ row g b, y ∈ A ++ [u] ∨ Rc g y u
theorem Dfs.nil (g : G) : Dfs g [] [] := ⟨List.nodup_nil, fun u h => (by cases h), List.Pairwise.nil, fun x h => (by cases h), fun b h => (by cases h), fun A u B h => (by cases A <;> cases h)⟩
theorem mem_oc {ord : List Nat} {n f f' : Nat} {stk : List (Nat × Nat)} {y : Nat} : y ∈ ord ++ ((n, f) :: stk).map (·.1) ↔ y ∈ ord ++ ((n, f') :: stk).map (·.1) := Iff.rfl
/-- one edge more, to a node that has been found -/
theorem Dfs.skip {g : G} {ord : List Nat} {n f t : Nat} {stk : List (Nat × Nat)} (h : Dfs g ord ((n, f) :: stk)) (e : (row g n)[f]? = some t) (ht : t ∈ ord ++ ((n, f) :: stk).map (·.1)) : Dfs g ord ((n, f + 1) :: stk) := by
  refine ⟨h.nd, h.lt, ?_, fun x hx => ?_, h.bl, h.sp⟩
  · have := h.ch
    rw [List.pairwise_cons] at this ⊢
    exact this
  · rcases List.mem_cons.mp hx with rfl | hx
    · have hf : f < (row g n).length := by
        rcases Nat.lt_or_ge f (row g n).length with k | k
        · exact k
        · rw [List.getElem?_eq_none k] at e; cases e
      refine ⟨hf, fun i y hi hy => ?_⟩
      rcases Nat.lt_or_ge i f with k | k
      · exact (h.fo _ List.mem_cons_self).2 i y k hy
      · have : i = f := Nat.le_antisymm (Nat.le_of_lt_succ hi) k
        subst this
        have hy : (row g n)[i]? = some y := hy
        rw [e] at hy
        cases hy
        exact ht
    · exact h.fo x (List.mem_cons_of_mem _ hx)
theorem Dfs.skip2 {g : G} {ord : List Nat} {n f t : Nat} {s : Nat × Nat} {stk : List (Nat × Nat)} (h : Dfs g ord (s :: (n, f) :: stk)) (e : (row g n)[f]? = some t) (ht : t ∈ ord ++ (s :: (n, f) :: stk).map (·.1)) : Dfs g ord (s :: (n, f + 1) :: stk) := by
  refine ⟨h.nd, h.lt, ?_, fun x hx => ?_, h.bl, h.sp⟩
  · have := h.ch
    rw [List.pairwise_cons, List.pairwise_cons] at this ⊢
    refine ⟨fun a ha => ?_, this.2⟩
    rcases List.mem_cons.mp ha with rfl | ha
    · exact this.1 (n, f) List.mem_cons_self
    · exact this.1 a (List.mem_cons_of_mem _ ha)
  · rcases List.mem_cons.mp hx with rfl | hx
    · exact h.fo x List.mem_cons_self
    rcases List.mem_cons.mp hx with rfl | hx
    · have hf : f < (row g n).length := by
        rcases Nat.lt_or_ge f (row g n).length with k | k
        · exact k
        · rw [List.getElem?_eq_none k] at e; cases e
      refine ⟨hf, fun i y hi hy => ?_⟩
      rcases Nat.lt_or_ge i f with k | k
      · exact (h.fo (n, f) (by simp)).2 i y k hy
      · have : i = f := Nat.le_antisymm (Nat.le_of_lt_succ hi) k
        subst this
        have hy : (row g n)[i]? = some y := hy
        rw [e] at hy
        cases hy
        exact ht
    · exact h.fo x (by simp [hx])
/-- a new node -/
theorem Dfs.push {g : G} {ord : List Nat} {t : Nat} {stk : List (Nat × Nat)} (h : Dfs g ord stk) (hl : t < g.length) (ht : t ∉ ord ++ stk.map (·.1)) (hr : ∀ x ∈ stk, Rc g x.1 t) : Dfs g ord ((t, 0) :: stk) := by
  have up : ∀ y, y ∈ ord ++ stk.map (·.1) → y ∈ ord ++ ((t, 0) :: stk).map (·.1) := fun y hy => by
    rcases List.mem_append.mp hy with k | k
    · exact List.mem_append.mpr (.inl k)
    · exact List.mem_append.mpr (.inr (List.mem_cons_of_mem _ k))
  refine ⟨?_, fun u hu => ?_, ?_, fun x hx => ?_, fun b hb y hy => up y (h.bl b hb y hy), h.sp⟩
  · show (ord ++ t :: stk.map (·.1)).Nodup
    have hn := h.nd
    rw [List.nodup_append] at hn ⊢
    refine ⟨hn.1, ?_, fun a ha b hb => ?_⟩
    · rw [List.nodup_cons]
      exact ⟨fun z => ht (List.mem_append.mpr (.inr z)), hn.2.1⟩
    · rcases List.mem_cons.mp hb with rfl | hb
      · exact fun z => ht (List.mem_append.mpr (.inl (z ▸ ha)))
      · exact hn.2.2 a ha b hb
  · rcases List.mem_append.mp hu with k | k
    · exact h.lt u (List.mem_append.mpr (.inl k))
    · rcases List.mem_cons.mp k with rfl | k
      · exact hl
      · exact h.lt u (List.mem_append.mpr (.inr k))
  · rw [List.pairwise_cons]
    exact ⟨fun x hx => hr x hx, h.ch⟩
  · rcases List.mem_cons.mp hx with rfl | hx
    · exact ⟨Nat.zero_le _, fun i y hi => absurd hi (Nat.not_lt_zero _)⟩
    · exact ⟨(h.fo x hx).1, fun i y hi hy => up y ((h.fo x hx).2 i y hi hy)⟩
/-- the top is left -/
theorem Dfs.pop {g : G} {ord : List Nat} {n : Nat} {stk : List (Nat × Nat)} (h : Dfs g ord ((n, (row g n).length) :: stk)) : Dfs g (ord ++ [n]) stk := by
  have perm : ∀ y, y ∈ ord ++ ((n, (row g n).length) :: stk).map (·.1) ↔ y ∈ (ord ++ [n]) ++ stk.map (·.1) := fun y => by
    rw [List.append_assoc]; rfl
  have succ : ∀ y ∈ row g n, y ∈ ord ++ ((n, (row g n).length) :: stk).map (·.1) := fun y hy => by
    obtain ⟨i, hi⟩ := List.mem_iff_getElem?.mp hy
    have hl : i < (row g n).length := by
      rcases Nat.lt_or_ge i (row g n).length with k | k
      · exact k
      · rw [List.getElem?_eq_none k] at hi; cases hi
    exact (h.fo _ List.mem_cons_self).2 i y hl hi
  have ch := h.ch
  rw [List.pairwise_cons] at ch
  refine ⟨?_, fun u hu => h.lt u ((perm u).mpr hu), ch.2, fun x hx => ?_, fun b hb y hy => ?_, fun A u B e b hb y hy => ?_⟩
  · have := h.nd
    rw [List.append_assoc]
    exact this
  · have := h.fo x (List.mem_cons_of_mem _ hx)
    exact ⟨this.1, fun i y hi hy => (perm y).mp (this.2 i y hi hy)⟩
  · rcases List.mem_append.mp hb with k | k
    · exact (perm y).mp (h.bl b k y hy)
    · rw [List.mem_singleton] at k
      subst k
      exact (perm y).mp (succ y hy)
  · rcases List.eq_nil_or_concat B with rfl | ⟨B', z, rfl⟩
    · have e2 := List.append_inj' e rfl
      have eA := e2.1
      have eu : n = u := (List.cons.inj e2.2).1
      subst eA; subst eu
      have hy' : y ∈ ord ++ ((n, (row g n).length) :: stk).map (·.1) := by
        rcases List.mem_append.mp hb with k | k
        · exact h.bl b k y hy
        · rw [List.mem_singleton] at k
          subst k
          exact succ y hy
      rcases List.mem_append.mp hy' with k | k
      · exact .inl (List.mem_append.mpr (.inl k))
      · rcases List.mem_cons.mp k with k | k
        · exact .inl (List.mem_append.mpr (.inr (by rw [k]; exact List.mem_singleton.mpr rfl)))
        · obtain ⟨x, hx, rfl⟩ := List.mem_map.mp k
          exact .inr (ch.1 x hx)
    · have e2 : ord ++ [n] = (A ++ u :: B') ++ [z] := by rw [e, List.concat_eq_append, List.append_assoc]; rfl
      exact h.sp A u B' (List.append_inj' e2 rfl).1 b hb y hy

/-- what a finished search has -/
structure Fin (g : G) (ord : List Nat) : Prop where
  nd : ord.Nodup
  all : ∀ u, u ∈ ord ↔ u < g.length
  sp : ∀ A u B, ord = A ++ u :: B → ∀ b ∈ A ++ [u], ∀ y ∈ row g b, y ∈ A ++ [u] ∨ Rc g y u
theorem Dfs.fin {g : G} {ord : List Nat} (h : Dfs g ord []) (k : ∀ u, u < g.length → u ∈ ord) : Fin g ord := by
  have hn := h.nd
  simp only [List.map_nil, List.append_nil] at hn
  exact ⟨hn, fun u => ⟨fun z => h.lt u (List.mem_append.mpr (.inl z)), k u⟩, h.sp⟩
theorem nodup_split {A B : List Nat} {w : Nat} (h : (A ++ w :: B).Nodup) : w ∉ A ∧ w ∉ B ∧ ∀ a ∈ A, a ∉ B := by
  rw [List.nodup_append, List.nodup_cons] at h
  exact ⟨fun z => h.2.2 w z w List.mem_cons_self rfl, h.2.1.1, fun a ha hb => h.2.2 a ha a (List.mem_cons_of_mem _ hb) rfl⟩
/-- from a node that may not stand behind s (nor its companions) no way leads to s, but in a circle -/
theorem Fin.back {g : G} {A B : List Nat} {s u : Nat} (ok : Ok g) (h : Fin g (A ++ s :: B)) (hu : u < g.length) (r : Rc g u s) (no : ∀ b ∈ B, ¬ Mu g u b) : Rc g s u := by
  obtain ⟨A1, w, B1, e, hw, hB⟩ := last_split (P := fun x => Mu g u x) (l := A ++ s :: B) ⟨u, (h.all u).mpr hu, Mu.refl g u⟩
  have nd := h.nd
  have hwm : w ∈ A ++ s :: B := by rw [e]; simp
  by_cases ews : w = s
  · subst ews; exact hw.2
  have hwA : w ∈ A := by
    rcases List.mem_append.mp hwm with k | k
    · exact k
    · rcases List.mem_cons.mp k with k | k
      · exact absurd k ews
      · exact absurd hw (no w k)
  -- s stands behind w
  have hsB : s ∉ A1 ++ [w] := by
    intro hs
    have hs1 : s ∈ A1 := by
      rcases List.mem_append.mp hs with k | k
      · exact k
      · exact absurd (List.mem_singleton.mp k).symm ews
    -- then A is shorter than A1: w ∈ A stands ahead of s, so w ∈ A1
    obtain ⟨C, D, eC⟩ := List.append_of_mem hs1
    have e2 : A ++ s :: B = C ++ s :: (D ++ w :: B1) := by rw [e, eC, List.append_assoc]; rfl
    have nd2 := nd
    rw [e2] at nd2
    have n1 := nodup_split nd
    have n2 := nodup_split nd2
    have : w ∈ B := by
      rcases List.append_eq_append_iff.mp e2 with ⟨F, h1, h2⟩ | ⟨F, h1, h2⟩
      · cases F with
        | nil => rw [List.nil_append] at h2; rw [(List.cons.inj h2).2]; simp
        | cons x F =>
          have h3 := List.cons.inj h2
          exact absurd (by rw [h1, ← h3.1]; simp) n2.1
      · cases F with
        | nil => rw [List.nil_append] at h2; rw [← (List.cons.inj h2).2]; simp
        | cons x F =>
          have h3 := List.cons.inj h2
          exact absurd (by rw [h1, ← h3.1]; simp) n1.1
    exact n1.2.2 w hwA this
  have huA : u ∈ A1 ++ [w] := by
    have hum : u ∈ A1 ++ w :: B1 := by rw [← e]; exact (h.all u).mpr hu
    rcases List.mem_append.mp hum with k | k
    · exact List.mem_append.mpr (.inl k)
    · rcases List.mem_cons.mp k with k | k
      · rw [k]; simp
      · exact absurd (Mu.refl g u) (hB u k)
  obtain ⟨b, y, hb, hy, hny, r1, r2⟩ := r.cross (S := fun x => x ∈ A1 ++ [w]) huA hsB
  rcases h.sp A1 w B1 e b hb y hy with k | k
  · exact absurd k hny
  · have mu : Mu g u y := ⟨r1.snoc hy, k.trans hw.2⟩
    have hym : y ∈ A1 ++ w :: B1 := by rw [← e]; exact (h.all y).mpr (ok b y hy)
    rcases List.mem_append.mp hym with z | z
    · exact absurd (List.mem_append.mpr (.inl z)) hny
    · rcases List.mem_cons.mp z with z | z
      · exact absurd (by rw [z]; simp) hny
      · exact absurd mu (hB y z)

/-! ### components: homes are numbers of nodes, -1 for none -/
/-- H u is u's number if it has one -/
structure Cmp (g : G) (H : Nat → Option Nat) (c : Nat) : Prop where
  lt : ∀ u i, H u = some i → i < c ∧ u < g.length
  eq : ∀ u v i j, H u = some i → H v = some j → (i = j ↔ Mu g u v)
  mu : ∀ u v i, H u = some i → Mu g u v → H v ≠ none
  ed : ∀ u v j, E g u v → u < g.length → H v = some j → ∃ i, H u = some i ∧ i ≤ j
  us : ∀ i, i < c → ∃ u, H u = some i
theorem Cmp.nil (g : G) : Cmp g (fun _ => none) 0 := ⟨fun _ _ h => (by cases h), fun _ _ _ _ h => (by cases h), fun _ _ _ h => (by cases h), fun _ _ _ _ _ h => (by cases h), fun i h => absurd h (Nat.not_lt_zero i)⟩
theorem Cmp.rc {g : G} {H : Nat → Option Nat} {c : Nat} (h : Cmp g H c) {u v j : Nat} (ok : Ok g) (r : Rc g u v) (hu : u < g.length) (hv : H v = some j) : ∃ i, H u = some i ∧ i ≤ j := by
  induction r with
  | refl _ => exact ⟨j, hv, Nat.le_refl _⟩
  | step e _ ih =>
    obtain ⟨i, h1, h2⟩ := ih (ok _ _ e) hv
    obtain ⟨i', h3, h4⟩ := h.ed _ _ i e hu h1
    exact ⟨i', h3, Nat.le_trans h4 h2⟩
/-- one component more: the set S of the nodes without a number from which start can be reached -/
theorem Cmp.more {g : G} {H H' : Nat → Option Nat} {c s : Nat} {A B : List Nat} (ok : Ok g) (h : Cmp g H c) (f : Fin g (A ++ s :: B)) (hB : ∀ b ∈ B, H b ≠ none) (hs : H s = none)
    (h1 : ∀ u i, H u = some i → H' u = some i) (h2 : ∀ u i, H u = none → H' u = some i → i = c ∧ u < g.length ∧ Rc g u s) (h3 : ∀ u, u < g.length → Rc g u s → H u = none → H' u = some c) : Cmp g H' (c + 1) := by
  have hsl : s < g.length := (f.all s).mp (by simp)
  -- the new ones are mutual with s
  have new : ∀ u, H u = none → u < g.length → Rc g u s → Mu g u s := fun u hu hl r => ⟨r, f.back ok hl r fun b hb m => by
    cases e : H b with
    | none => exact hB b hb e
    | some i => exact h.mu b u i e m.symm hu⟩
  have old : ∀ u i, H' u = some i → H u = some i ∨ (H u = none ∧ i = c ∧ u < g.length ∧ Mu g u s) := fun u i e => by
    cases k : H u with
    | none =>
      obtain ⟨e1, e2, e3⟩ := h2 u i k e
      exact .inr ⟨rfl, e1, e2, new u k e2 e3⟩
    | some j =>
      rw [h1 u j k] at e
      exact .inl e
  refine ⟨fun u i e => ?_, fun u v i j e1 e2 => ?_, fun u v i e m => ?_, fun u v j e hu ev => ?_, fun i hi => ?_⟩
  · rcases old u i e with k | ⟨_, k1, k2, _⟩
    · exact ⟨Nat.lt_succ_of_lt (h.lt u i k).1, (h.lt u i k).2⟩
    · exact ⟨by omega, k2⟩
  · rcases old u i e1 with k | ⟨a1, a2, a3, a4⟩ <;> rcases old v j e2 with l | ⟨b1, b2, b3, b4⟩
    · exact h.eq u v i j k l
    · refine ⟨fun z => ?_, fun m => absurd b1 (h.mu u v i k m)⟩
      have := (h.lt u i k).1
      omega
    · refine ⟨fun z => ?_, fun m => absurd a1 (h.mu v u j l m.symm)⟩
      have := (h.lt v j l).1
      omega
    · exact ⟨fun _ => a4.trans b4.symm, fun _ => by rw [a2, b2]⟩
  · rcases old u i e with k | ⟨a1, a2, a3, a4⟩
    · intro z
      cases e' : H v with
      | none => exact h.mu u v i k m e'
      | some j => rw [h1 v j e'] at z; cases z
    · intro z
      have hv : v < g.length := ok.rc m.1 a3
      cases e' : H v with
      | none => rw [h3 v hv (m.2.trans a4.1) e'] at z; cases z
      | some j => rw [h1 v j e'] at z; cases z
  · rcases old v j ev with k | ⟨a1, a2, a3, a4⟩
    · obtain ⟨i, k1, k2⟩ := h.ed u v j e hu k
      exact ⟨i, h1 u i k1, k2⟩
    · cases k : H u with
      | none => exact ⟨c, h3 u hu (.step e a4.1) k, by omega⟩
      | some i => exact ⟨i, h1 u i k, by have := (h.lt u i k).1; omega⟩
  · rcases Nat.lt_or_ge i c with k | k
    · obtain ⟨u, e⟩ := h.us i k
      exact ⟨u, h1 u i e⟩
    · exact ⟨s, by rw [h3 s hsl (.refl s) hs]; congr 1; omega⟩
/-- finished: every node has a number -/
structure Comps (g : G) (h : List Nat) (c : Nat) : Prop where
  len : h.length = g.length
  lt : ∀ i ∈ h, i < c
  eq : ∀ u v i j, h[u]? = some i → h[v]? = some j → (i = j ↔ Mu g u v)
  ed : ∀ u v i j, E g u v → h[u]? = some i → h[v]? = some j → i ≤ j
  us : ∀ i, i < c → i ∈ h
/-- on a cycle -/
def Cyc (g : G) (u : Nat) : Prop := ∃ v, E g u v ∧ Rc g v u
theorem Rc.cases_step {g : G} {u v : Nat} (r : Rc g u v) : u = v ∨ ∃ w, E g u w ∧ Rc g w v := by
  cases r with
  | refl _ => exact .inl rfl
  | step e r => exact .inr ⟨_, e, r⟩
/-- a node's component has an inner edge exactly if the node lies on a cycle -/
theorem cyc_iff {g : G} {h : List Nat} {c : Nat} (ok : Ok g) (k : Comps g h c) {u i : Nat} (hu : h[u]? = some i) : Cyc g u ↔ ∃ a b, E g a b ∧ h[a]? = some i ∧ h[b]? = some i := by
  have hl : ∀ {x j : Nat}, h[x]? = some j → x < g.length := fun {x j} e => by
    rw [← k.len]
    rcases Nat.lt_or_ge x h.length with z | z
    · exact z
    · rw [List.getElem?_eq_none z] at e; cases e
  constructor
  · rintro ⟨v, e, r⟩
    have hv : v < h.length := by rw [k.len]; exact ok u v e
    refine ⟨u, v, e, hu, ?_⟩
    have e2 := List.getElem?_eq_getElem hv
    rw [e2]
    congr 1
    exact ((k.eq u v i _ hu e2).mpr ⟨.one e, r⟩).symm
  · rintro ⟨a, b, e, ha, hb⟩
    have m1 := (k.eq u a i i hu ha).mp rfl
    have m2 := (k.eq u b i i hu hb).mp rfl
    rcases m1.1.cases_step with rfl | ⟨w, e1, r1⟩
    · exact ⟨b, e, m2.2⟩
    · exact ⟨w, e1, r1.trans (.step e m2.2)⟩

/-! ### all edges turned round -/
def Rev (g t : G) : Prop := t.length = g.length ∧ ∀ u v, E t v u ↔ (E g u v ∧ u < g.length ∧ v < g.length)
/-! ### what can be reached -/
theorem rc_sets {g : G} {S : Nat → Prop} (cl : ∀ u v, S u → E g u v → S v) {u v : Nat} (r : Rc g u v) (hu : S u) : S v := by
  induction r with
  | refl _ => exact hu
  | step e _ ih => exact ih (cl _ _ hu e)
/-! ### counting -/
def wsum (w : Nat → Nat) (l : List Nat) : Nat := (l.map w).foldr (· + ·) 0
theorem wsum_cons (w : Nat → Nat) (x : Nat) (l : List Nat) : wsum w (x :: l) = w x + wsum w l := rfl
theorem wsum_append (w : Nat → Nat) (l m : List Nat) : wsum w (l ++ m) = wsum w l + wsum w m := by
  induction l with
  | nil => simp [wsum]
  | cons x l ih => rw [List.cons_append, wsum_cons, wsum_cons, ih]; omega
def below (w : Nat → Nat) : Nat → Nat
  | 0 => 0
  | n + 1 => below w n + w n
theorem wsum_erase (w : Nat → Nat) (x : Nat) : ∀ {l : List Nat}, x ∈ l → wsum w l = w x + wsum w (l.erase x)
  | [], h => by cases h
  | y :: l, h => by
    by_cases e : y = x
    · subst e
      rw [List.erase_cons_head]; rfl
    · rw [List.erase_cons_tail (by simpa using e), wsum_cons, wsum_cons]
      rcases List.mem_cons.mp h with k | k
      · exact absurd k.symm e
      · rw [wsum_erase w x k]; omega
theorem wsum_le (w : Nat → Nat) : ∀ (n : Nat) {l : List Nat}, l.Nodup → (∀ x ∈ l, x < n) → wsum w l ≤ below w n
  | 0, l, _, h => by
    cases l with
    | nil => exact Nat.le_refl 0
    | cons x l => exact absurd (h x List.mem_cons_self) (Nat.not_lt_zero x)
  | n + 1, l, nd, h => by
    by_cases k : n ∈ l
    · rw [wsum_erase w n k]
      have := wsum_le w n (l := l.erase n) (nd.erase n) fun x hx => by
        have h1 := h x (List.mem_of_mem_erase hx)
        have h2 : x ≠ n := fun z => by
          rw [z] at hx
          exact (List.Nodup.mem_erase_iff nd).mp hx |>.1 rfl
        omega
      show _ ≤ below w n + w n
      omega
    · have := wsum_le w n nd fun x hx => by
        have h1 := h x hx
        have h2 : x ≠ n := fun z => k (z ▸ hx)
        omega
      show _ ≤ below w n + w n
      omega
def steps (g : G) (ord : List Nat) (stk : List (Nat × Nat)) : Nat := wsum (fun u => (row g u).length + 1) ord + wsum (·) (stk.map (·.2))
theorem steps_lt {g : G} {ord : List Nat} {stk : List (Nat × Nat)} {x : Nat × Nat} (h : Dfs g ord (x :: stk)) : steps g ord (x :: stk) < below (fun u => (row g u).length + 1) g.length := by
  have h1 := wsum_le (fun u => (row g u).length + 1) g.length h.nd h.lt
  rw [wsum_append] at h1
  have h2 : ∀ l : List (Nat × Nat), (∀ y ∈ l, y.2 ≤ (row g y.1).length) → wsum (·) (l.map (·.2)) + l.length ≤ wsum (fun u => (row g u).length + 1) (l.map (·.1)) := by
    intro l
    induction l with
    | nil => intro _; exact Nat.le_refl 0
    | cons y l ih =>
      intro hl
      have a := hl y List.mem_cons_self
      have b := ih fun z hz => hl z (List.mem_cons_of_mem _ hz)
      simp only [List.map_cons, wsum_cons, List.length_cons]
      omega
  have h3 := h2 (x :: stk) fun y hy => (h.fo y hy).1
  simp only [List.length_cons] at h3
  unfold steps
  omega
theorem steps_pop {g : G} {ord : List Nat} {n : Nat} {stk : List (Nat × Nat)} : steps g (ord ++ [n]) stk = steps g ord ((n, (row g n).length) :: stk) + 1 := by
  unfold steps
  rw [wsum_append]
  simp only [List.map_cons, wsum_cons]
  show _ + ((row g n).length + 1 + 0) + _ = _
  omega
theorem steps_skip {g : G} {ord : List Nat} {n f : Nat} {stk : List (Nat × Nat)} : steps g ord ((n, f + 1) :: stk) = steps g ord ((n, f) :: stk) + 1 := by
  unfold steps
  simp only [List.map_cons, wsum_cons]
  omega
theorem steps_push {g : G} {ord : List Nat} {n : Nat} {stk : List (Nat × Nat)} : steps g ord ((n, 0) :: stk) = steps g ord stk := by
  unfold steps
  simp only [List.map_cons, wsum_cons]
  omega
end Gr
namespace Bx
open PySem PySem.Spec PyProof.Rows L2
abbrev VN (n : Nat) : V := .int (n : Int)
def Sq (K : PySem.W.Frag) (H : Hp) (a : Addr) (xs : List V) : Prop := SqL K H a xs ∨ SqT K H a xs
theorem sqL_same {K : PySem.W.Frag} {H H' : Hp} {a : Addr} {xs : List V} (s : Same H H') (h : SqL K H a xs) : SqL K H' a xs := by
  rcases h with h | h
  · exact .inl (by
      rcases h with h | ⟨o, h⟩
      · exact .inl (s _ _ h)
      · exact .inr ⟨o, s _ _ h⟩)
  · exact .inr h
theorem sqT_same {K : PySem.W.Frag} {H H' : Hp} {a : Addr} {xs : List V} (s : Same H H') (h : SqT K H a xs) : SqT K H' a xs := by
  rcases h with h | h
  · exact .inl (by
      rcases h with h | ⟨o, h⟩
      · exact .inl (s _ _ h)
      · exact .inr ⟨o, s _ _ h⟩)
  · exact .inr h
theorem Sq.same {K : PySem.W.Frag} {H H' : Hp} {a : Addr} {xs : List V} (s : Same H H') (h : Sq K H a xs) : Sq K H' a xs := by
  rcases h with h | h
  · exact .inl (sqL_same s h)
  · exact .inr (sqT_same s h)
theorem nw {H H1 : Hp} {p : Addr} {o : HO} (hp : H p = none) (e : upd H p o = H1) : Same H H1 ∧ H1 p = some o := e ▸ ⟨same_new hp, upd_same⟩
theorem mw {H0 H H1 : Hp} {p : Addr} {o : HO} (s : Same H0 H) (hp : H0 p = none) (e : upd H p o = H1) : Same H0 H1 ∧ H1 p = some o ∧ ∀ q, q ≠ p → H1 q = H q := e ▸ ⟨fun b x hb => by
  rw [upd_ne (ne_of_none hb hp)]
  exact s _ _ hb, upd_same, fun q hq => upd_ne hq⟩
theorem mwt {H H1 : Hp} {p : Addr} {o : HO} {l : List V} (h : H p = some (.lst l)) (e : upd H p o = H1) : ∀ b xs, H b = some (.tup xs) → H1 b = some (.tup xs) := e ▸ fun b xs hb => by
  rw [upd_ne (fun z => by rw [z, h] at hb; cases hb)]
  exact hb
theorem Same.fr {H H' : Hp} {p : Addr} (s : Same H H') (h : H' p = none) : H p = none := by
  cases e : H p with
  | none => rfl
  | some o => rw [s _ _ e] at h; cases h
/-- a graph, by rows of lists or tuples -/
def GrAt (K : PySem.W.Frag) (H : Hp) (r : Addr) (g : Gr.G) : Prop := ∃ as : List Addr, Sq K H r (as.map V.ref) ∧ as.length = g.length ∧ ∀ i a, as[i]? = some a → Sq K H a ((Gr.row g i).map VN)
theorem GrAt.same {K : PySem.W.Frag} {H H' : Hp} {r : Addr} {g : Gr.G} (s : Same H H') (h : GrAt K H r g) : GrAt K H' r g := by
  obtain ⟨as, h1, h2, h3⟩ := h
  exact ⟨as, h1.same s, h2, fun i a e => (h3 i a e).same s⟩
theorem iteB_t {c : Bool} {A B : Prop} (e : c = true) (h : A) : if c = true then A else B := by rw [if_pos e]; exact h
theorem iteB_f {c : Bool} {A B : Prop} (e : c = false) (h : B) : if c = true then A else B := by rw [if_neg (by rw [e]; exact Bool.false_ne_true)]; exact h
theorem snocg {α : Type} {xs : List α} {x y : α} {j : Nat} (h : (xs ++ [x])[j]? = some y) : (j < xs.length ∧ xs[j]? = some y) ∨ (j = xs.length ∧ y = x) := by
  rcases Nat.lt_or_ge j xs.length with c | c
  · rw [List.getElem?_append_left c] at h
    exact .inl ⟨c, h⟩
  · rw [List.getElem?_append_right c] at h
    have e : j - xs.length = 0 := by
      cases e : j - xs.length with
      | zero => rfl
      | succ n => rw [e] at h; cases h
    rw [e] at h
    exact .inr ⟨by omega, (Option.some.inj h).symm⟩
theorem nats_get {xs : List Nat} {j : Nat} {y : V} (h : (xs.map VN)[j]? = some y) : ∃ t, xs[j]? = some t ∧ y = VN t := by
  rw [List.getElem?_map] at h
  cases e : xs[j]? with
  | none => rw [e] at h; cases h
  | some t => rw [e] at h; exact ⟨t, rfl, (Option.some.inj h).symm⟩
theorem refsg {as : List Addr} {i : Nat} {v : V} (h : (as.map V.ref)[i]? = some v) : ∃ a, as[i]? = some a ∧ v = .ref a := by
  rw [List.getElem?_map] at h
  cases e : as[i]? with
  | none => rw [e] at h; cases h
  | some z => rw [e] at h; exact ⟨z, rfl, (Option.some.inj h).symm⟩
theorem mapg {α β : Type} {f : α → β} {xs : List α} {i : Nat} {y : β} (h : (xs.map f)[i]? = some y) : ∃ x, xs[i]? = some x ∧ y = f x := by
  rw [List.getElem?_map] at h
  cases e : xs[i]? with
  | none => rw [e] at h; cases h
  | some z => rw [e] at h; exact ⟨z, rfl, (Option.some.inj h).symm⟩
/-- an item by its number, as atI wants it -/
theorem atN {α : Type} {f : α → V} {xs : List α} {i : Nat} {x : α} (h : xs[i]? = some x) : atI (xs.map f) (i : Int) = some (f x) := atI_nat (by rw [List.getElem?_map, h]; rfl)
theorem lt_of_get {α : Type} {xs : List α} {i : Nat} {x : α} (h : xs[i]? = some x) : i < xs.length := (List.getElem?_eq_some_iff.mp h).1
theorem nd_inj {α : Type} {xs : List α} (h : xs.Nodup) {i j : Nat} {x : α} (h1 : xs[i]? = some x) (h2 : xs[j]? = some x) : i = j := (List.getElem?_inj (lt_of_get h1) h).mp (h1.trans h2.symm)
theorem for_sqB {K : PySem.W.Frag} {i : Nat} {a : Addr} {xs : List V} {g : TG} {tb : TS} {D : Ends} {σ : L2.St} {H0 H : Hp} (hv : σ[i]? = some (some (.ref a))) (hq : SeqV H0 a xs) (Pv : Nat → L2.St → Hp → Prop) (h0 : Pv 0 σ H) (hS : ∀ i σ' H', Pv i σ' H' → Same H0 H')
    (hs : ∀ i x σ H, xs[i]? = some x → Pv i σ H → g x σ H fun σ2 H2 => tb { D with nx := Pv (i + 1), ct := Pv (i + 1), bk := D.nx } σ2 H2) (hd : ∀ σ H, Pv xs.length σ H → D.nx σ H) : tFor (iSeq K (tVar i)) g tb D σ H := by
  rcases hq with h | h
  · exact .inl ⟨_, hv, a, rfl, ⟨_, .of (hS 0 σ H h0 _ _ h)⟩, for_list Pv h0 (fun i σ' H' _ p => .of (hS i σ' H' p _ _ h)) hs hd⟩
  · exact .inr ⟨_, hv, a, rfl, ⟨_, .of (hS 0 σ H h0 _ _ h)⟩, for_tup Pv h0 (fun i σ' H' _ p => .of (hS i σ' H' p _ _ h)) hs hd⟩
/-- a dict comprehension over anything walked -/
theorem dc_it {J : It} {n : Nat} {G : Hp → Prop} {Y : Nat → Hp → V → Hp → Prop} (w : Walk J n G Y) {g : TG} {tt : TT} {tk tv : TE} {vs : List Nat} {σ : L2.St} {H1 : Hp} {D : Addr} {Qd : Hp → Prop} (Pv : Nat → Hp → Prop) (h0 : Pv 0 (upd H1 D (.dK []))) (hG : ∀ i H, i ≤ n → Pv i H → G H)
    (hs : ∀ i x H H', i < n → Pv i H → Y i H x H' → g x (wipe σ vs) H' fun σ2 H2 => wipe σ2 vs = wipe σ vs ∧ tt σ2 H2 fun b H3 =>
      if b = true then tk σ2 H3 fun y H4 => tv σ2 H4 fun z H5 => ∃ kvs k, y = kV k ∧ H5 D = some (.dK kvs) ∧ kvs.length < sizeLine ∧ Pv (i + 1) (upd H5 D (.dK (putK kvs k z))) else Pv (i + 1) H3) (hd : ∀ H, Pv n H → Qd H) :
    ∃ W : Nat → Nat → Hp → Prop, (∃ m, W 0 m (upd H1 D (.dK []))) ∧ ∀ i m H, W i m H →
      (J.stop i H ∧ Qd H) ∨ (J.go i H ∧ ∃ Nx : Hp → Prop, (∀ H', Nx H' → ∃ m', m' < m ∧ W (i + 1) m' H') ∧ ∀ x H', J.yld i H x H' → g x (wipe σ vs) H' fun σ2 H2 => wipe σ2 vs = wipe σ vs ∧ tt σ2 H2 fun b H3 =>
        if b = true then tk σ2 H3 fun y H4 => tv σ2 H4 fun z H5 => ∃ kvs k, y = kV k ∧ H5 D = some (.dK kvs) ∧ kvs.length < sizeLine ∧ Nx (upd H5 D (.dK (putK kvs k z))) else Nx H3) := by
  refine ⟨fun i m H => m = n - i ∧ i ≤ n ∧ Pv i H, ⟨n, by simp, Nat.zero_le _, h0⟩, ?_⟩
  rintro i m H ⟨rfl, hi, p⟩
  have q := hG i H hi p
  by_cases hlt : i < n
  · refine .inr ⟨w.goes i H hlt q, Pv (i + 1), fun H' p' => ⟨n - (i + 1), by omega, rfl, hlt, p'⟩, fun x H' y => hs i x H H' hlt p (w.yields i H x H' hlt q y)⟩
  · have e : i = n := by omega
    subst e
    exact .inl ⟨w.stops H q, hd H p⟩
/-- the numbers of the nodes of a list, as a dict -/
def numK (us : List Nat) : List (L2.Key × V) := us.zipIdx.map fun p => (Sum.inl (p.1 : Int), VN p.2)
theorem numK_len (us : List Nat) : (numK us).length = us.length := by unfold numK; rw [List.length_map, List.length_zipIdx]
theorem numK_snoc (us : List Nat) (u : Nat) : numK (us ++ [u]) = numK us ++ [(Sum.inl (u : Int), VN us.length)] := by
  unfold numK
  rw [List.zipIdx_append, List.map_append]
  simp
theorem numK_put {us : List Nat} {u : Nat} (h : u ∉ us) : putK (numK us) (Sum.inl (u : Int)) (VN us.length) = numK (us ++ [u]) := by
  rw [numK_snoc]
  unfold putK
  rw [if_neg ?_]
  intro z
  rw [List.any_eq_true] at z
  obtain ⟨kv, hm, e⟩ := z
  have e := of_decide_eq_true e
  unfold numK at hm
  obtain ⟨p, hp, rfl⟩ := List.mem_map.mp hm
  have e2 : (p.1 : Int) = (u : Int) := Sum.inl.inj e
  have := List.mem_zipIdx' hp
  exact h (by have h3 : p.1 = u := by omega
              rw [← h3]
              exact this.2 ▸ List.getElem_mem _)
theorem numK_valF (z : Int) : ∀ (us : List Nat) (k : Nat), ((us.zipIdx k).map fun p => ((Sum.inl (p.1 : Int) : L2.Key), VN p.2)).find? (fun kv => decide (kv.1 = (Sum.inl z : L2.Key))) = if (z.toNat ∈ us ∧ 0 ≤ z) then some (Sum.inl z, VN (us.idxOf z.toNat + k)) else none
  | [], k => by simp
  | u :: us, k => by
    rw [List.zipIdx_cons, List.map_cons, List.find?_cons]
    by_cases e : (u : Int) = z
    · have hz : z.toNat = u := by omega
      rw [decide_eq_true (by show (Sum.inl (u : Int) : L2.Key) = Sum.inl z; rw [e]), if_pos ⟨by rw [hz]; exact List.mem_cons_self, by omega⟩, hz, List.idxOf_cons_self, Nat.zero_add]
      show some ((Sum.inl (u : Int) : L2.Key), VN k) = _
      rw [e]
    · rw [decide_eq_false (by intro h; exact e (Sum.inl.inj h)), numK_valF z us (k + 1)]
      by_cases h0 : 0 ≤ z
      · have hne : u ≠ z.toNat := by omega
        have hiff : (z.toNat ∈ u :: us ∧ 0 ≤ z) ↔ (z.toNat ∈ us ∧ 0 ≤ z) := by simp [hne.symm]
        simp only [hiff]
        split
        · have e2 : (u :: us).idxOf z.toNat + k = us.idxOf z.toNat + (k + 1) := by
            rw [List.idxOf_cons, show (u == z.toNat) = false by simpa using hne]
            show us.idxOf z.toNat + 1 + k = _
            omega
          rw [e2]
        · rfl
      · rw [if_neg (fun q => h0 q.2), if_neg (fun q => h0 q.2)]
theorem numK_val (us : List Nat) (z : Int) : valV (numK us) (Sum.inl z : L2.Key) = if (z.toNat ∈ us ∧ 0 ≤ z) then some (VN (us.idxOf z.toNat)) else none := by
  unfold valV numK
  have := numK_valF z us 0
  rw [show us.zipIdx = us.zipIdx 0 from rfl, this]
  split <;> rfl
end Bx
/-! What `lives` says: a node lives exactly if an infinite path from it visits good nodes again and again. -/
namespace Lv
section
variable (mv : Nat → List Int) (goods : Nat → Bool) (n : Nat)
def hit (kept reach : Nat → Bool) (ts : List Int) : Bool := ts.any fun t => kept t.toNat && (goods t.toNat || reach t.toNat)
def stp (kept : Nat → Bool) (k : Nat) (p : (Nat → Bool) × Bool) : (Nat → Bool) × Bool :=
  if (kept k && !p.1 k && hit goods kept p.1 (mv k)) = true then (fun t => if t = k then true else p.1 t, true) else p
def pas (kept : Nat → Bool) : Nat → (Nat → Bool) × Bool → (Nat → Bool) × Bool
  | 0, p => p
  | j + 1, p => stp mv goods kept (n - 1 - j) (pas kept j p)
def inn (kept : Nat → Bool) : Nat → (Nat → Bool) → Nat → Bool
  | 0, r => r
  | f + 1, r => if (pas mv goods n kept n (r, false)).2 = true then inn kept f (pas mv goods n kept n (r, false)).1 else (pas mv goods n kept n (r, false)).1
def eqB (r k : Nat → Bool) : Bool := decide (∀ t, t < n → r t = k t)
def out : Nat → (Nat → Bool) → Nat → Bool
  | 0, k => k
  | f + 1, k => if eqB n (inn mv goods n k (n + 1) fun _ => false) k = true then k else out f (inn mv goods n k (n + 1) fun _ => false)
def lives (ss : List Int) : Bool := ss.any fun s => out mv goods n (n + 1) (fun _ => true) s.toNat
end

/-! counting -/
def cnt (f : Nat → Bool) : Nat → Nat
  | 0 => 0
  | n + 1 => cnt f n + (if f n = true then 1 else 0)
theorem cnt_le (f : Nat → Bool) : ∀ n, cnt f n ≤ n
  | 0 => Nat.le_refl 0
  | n + 1 => by
    have := cnt_le f n
    unfold cnt
    split <;> omega
theorem cnt_mono {f g : Nat → Bool} : ∀ n, (∀ t, t < n → f t = true → g t = true) → cnt f n ≤ cnt g n
  | 0, _ => Nat.le_refl 0
  | n + 1, h => by
    have := cnt_mono n fun t ht => h t (by omega)
    unfold cnt
    by_cases a : f n = true
    · rw [if_pos a, if_pos (h n (by omega) a)]
      omega
    · rw [if_neg a]
      omega
theorem cnt_lt {f g : Nat → Bool} : ∀ n, (∀ t, t < n → f t = true → g t = true) → (∃ t, t < n ∧ g t = true ∧ f t = false) → cnt f n < cnt g n
  | 0, _, ⟨t, ht, _⟩ => absurd ht (Nat.not_lt_zero t)
  | n + 1, h, ⟨t, ht, gt, ft⟩ => by
    unfold cnt
    rcases Nat.lt_or_ge t n with y | y
    · have := cnt_lt n (fun t ht => h t (by omega)) ⟨t, y, gt, ft⟩
      by_cases a : f n = true
      · rw [if_pos a, if_pos (h n (by omega) a)]
        omega
      · rw [if_neg a]
        omega
    · have e : t = n := by omega
      subst e
      have := cnt_mono t fun s hs => h s (by omega)
      rw [gt, ft, if_pos rfl, if_neg (by decide)]
      omega
theorem cnt_all (n : Nat) : cnt (fun _ => true) n = n := by
  induction n with
  | zero => rfl
  | succ n ih =>
    unfold cnt
    rw [ih, if_pos rfl]
section
variable {mv : Nat → List Int} {goods : Nat → Bool} {n : Nat}
theorem hit_iff {kept reach : Nat → Bool} {ts : List Int} : hit goods kept reach ts = true ↔ ∃ t ∈ ts, kept t.toNat = true ∧ (goods t.toNat = true ∨ reach t.toNat = true) := by
  unfold hit
  rw [List.any_eq_true]
  constructor
  · rintro ⟨t, ht, h⟩
    rw [Bool.and_eq_true_iff, Bool.or_eq_true_iff] at h
    exact ⟨t, ht, h⟩
  · rintro ⟨t, ht, h⟩
    refine ⟨t, ht, ?_⟩
    rw [Bool.and_eq_true_iff, Bool.or_eq_true_iff]
    exact h
/-- the condition under which a step fires -/
def Fire (mv : Nat → List Int) (goods kept reach : Nat → Bool) (k : Nat) : Prop := kept k = true ∧ reach k = false ∧ hit goods kept reach (mv k) = true
theorem stp_cases (kept : Nat → Bool) (k : Nat) (p : (Nat → Bool) × Bool) : (Fire mv goods kept p.1 k ∧ stp mv goods kept k p = (fun t => if t = k then true else p.1 t, true)) ∨ (¬ Fire mv goods kept p.1 k ∧ stp mv goods kept k p = p) := by
  unfold stp Fire
  by_cases c : (kept k && !p.1 k && hit goods kept p.1 (mv k)) = true
  · left
    rw [if_pos c]
    simp only [Bool.and_eq_true, Bool.not_eq_true'] at c
    exact ⟨⟨c.1.1, c.1.2, c.2⟩, rfl⟩
  · right
    rw [if_neg c]
    refine ⟨fun ⟨a, b, d⟩ => c ?_, rfl⟩
    rw [a, b, d]
    rfl
theorem pas_mono (kept : Nat → Bool) (p : (Nat → Bool) × Bool) : ∀ j t, p.1 t = true → (pas mv goods n kept j p).1 t = true
  | 0, _, h => h
  | j + 1, t, h => by
    have ih := pas_mono kept p j t h
    unfold pas
    rcases stp_cases (mv := mv) (goods := goods) kept (n - 1 - j) (pas mv goods n kept j p) with ⟨_, e⟩ | ⟨_, e⟩
    · rw [e]
      show (if t = n - 1 - j then true else _) = true
      split
      · rfl
      · exact ih
    · rw [e]
      exact ih
theorem pas_quiet (kept : Nat → Bool) (p : (Nat → Bool) × Bool) : ∀ j, (pas mv goods n kept j p).2 = false → pas mv goods n kept j p = p ∧ ∀ i, i < j → ¬ Fire mv goods kept p.1 (n - 1 - i)
  | 0, _ => ⟨rfl, fun i h => absurd h (Nat.not_lt_zero i)⟩
  | j + 1, h => by
    unfold pas at h ⊢
    rcases stp_cases (mv := mv) (goods := goods) kept (n - 1 - j) (pas mv goods n kept j p) with ⟨_, e⟩ | ⟨nf, e⟩
    · rw [e] at h
      cases h
    · rw [e] at h ⊢
      obtain ⟨h1, h2⟩ := pas_quiet kept p j h
      refine ⟨h1, fun i hi => ?_⟩
      rcases Nat.lt_or_ge i j with y | y
      · exact h2 i y
      · have : i = j := by omega
        rw [this, ← h1]
        exact nf
theorem pas_grow (kept r : Nat → Bool) : ∀ j, j ≤ n → (pas mv goods n kept j (r, false)).2 = true → ∃ t, t < n ∧ (pas mv goods n kept j (r, false)).1 t = true ∧ r t = false
  | 0, _, h => by cases h
  | j + 1, hj, h => by
    unfold pas at h ⊢
    rcases stp_cases (mv := mv) (goods := goods) kept (n - 1 - j) (pas mv goods n kept j (r, false)) with ⟨f, e⟩ | ⟨nf, e⟩
    · rw [e]
      refine ⟨n - 1 - j, by omega, if_pos rfl, ?_⟩
      cases hr : r (n - 1 - j) with
      | false => rfl
      | true =>
        have := pas_mono (mv := mv) (goods := goods) (n := n) kept (r, false) j (n - 1 - j) hr
        rw [f.2.1] at this
        cases this
    · rw [e] at h ⊢
      exact pas_grow kept r j (by omega) h
/-- from k a good kept node can be reached through kept nodes, in m + 1 steps -/
def Rch (mv : Nat → List Int) (goods kept : Nat → Bool) : Nat → Nat → Prop
  | 0, k => ∃ t ∈ mv k, kept t.toNat = true ∧ goods t.toNat = true
  | m + 1, k => ∃ t ∈ mv k, kept t.toNat = true ∧ Rch mv goods kept m t.toNat
def Snd (mv : Nat → List Int) (goods kept : Nat → Bool) (r : Nat → Bool) : Prop := ∀ t, r t = true → kept t = true ∧ ∃ m, Rch mv goods kept m t
theorem stp_snd {kept : Nat → Bool} {k : Nat} {p : (Nat → Bool) × Bool} (h : Snd mv goods kept p.1) : Snd mv goods kept (stp mv goods kept k p).1 := by
  rcases stp_cases (mv := mv) (goods := goods) kept k p with ⟨f, e⟩ | ⟨_, e⟩
  · rw [e]
    intro t ht
    have ht : (if t = k then true else p.1 t) = true := ht
    by_cases y : t = k
    · subst y
      refine ⟨f.1, ?_⟩
      obtain ⟨t', h1, h2, h3⟩ := hit_iff.mp f.2.2
      rcases h3 with g | g
      · exact ⟨0, t', h1, h2, g⟩
      · obtain ⟨_, m, hm⟩ := h _ g
        exact ⟨m + 1, t', h1, h2, hm⟩
    · rw [if_neg y] at ht
      exact h t ht
  · rw [e]
    exact h
theorem pas_snd {kept : Nat → Bool} {p : (Nat → Bool) × Bool} (h : Snd mv goods kept p.1) : ∀ j, Snd mv goods kept (pas mv goods n kept j p).1
  | 0 => h
  | j + 1 => stp_snd (pas_snd h j)
def Clo (mv : Nat → List Int) (goods kept : Nat → Bool) (n : Nat) (r : Nat → Bool) : Prop := ∀ k, k < n → kept k = true → hit goods kept r (mv k) = true → r k = true
theorem inn_snd {kept : Nat → Bool} : ∀ f r, Snd mv goods kept r → Snd mv goods kept (inn mv goods n kept f r)
  | 0, r, h => h
  | f + 1, r, h => by
    unfold inn
    have h1 := pas_snd (n := n) (p := (r, false)) h n
    split
    · exact inn_snd f _ h1
    · exact h1
theorem inn_clo {kept : Nat → Bool} : ∀ f r, n < cnt r n + f → Clo mv goods kept n (inn mv goods n kept f r)
  | 0, r, h => by have := cnt_le r n; omega
  | f + 1, r, h => by
    unfold inn
    split
    · rename_i c
      refine inn_clo f _ ?_
      have := cnt_lt n (f := r) (g := (pas mv goods n kept n (r, false)).1) (fun t _ ht => pas_mono kept (r, false) n t ht) (pas_grow kept r n (Nat.le_refl n) c)
      omega
    · rename_i c
      obtain ⟨h1, h2⟩ := pas_quiet (mv := mv) (goods := goods) (n := n) kept (r, false) n (Bool.eq_false_iff.mpr c)
      rw [h1]
      intro k hk hkk hh
      cases hr : r k with
      | true => exact hr
      | false =>
        have := h2 (n - 1 - k) (by omega)
        rw [show n - 1 - (n - 1 - k) = k by omega] at this
        exact absurd ⟨hkk, hr, hh⟩ this
theorem out_fix : ∀ f k, cnt k n < f → ∀ t, t < n → inn mv goods n (out mv goods n f k) (n + 1) (fun _ => false) t = out mv goods n f k t
  | 0, k, h => absurd h (Nat.not_lt_zero _)
  | f + 1, k, h => by
    unfold out
    split
    · rename_i c
      intro t ht
      exact of_decide_eq_true c t ht
    · rename_i c
      refine out_fix f _ ?_
      have hs := inn_snd (mv := mv) (goods := goods) (n := n) (kept := k) (n + 1) (fun _ => false) (fun t ht => by cases ht)
      have := cnt_lt n (f := inn mv goods n k (n + 1) fun _ => false) (g := k) (fun t _ ht => (hs t ht).1) ?_
      · omega
      · refine Classical.byContradiction fun hno => c (decide_eq_true fun t ht => ?_)
        cases ha : inn mv goods n k (n + 1) (fun _ => false) t with
        | true => exact (hs t ha).1.symm
        | false =>
          cases hb : k t with
          | false => rfl
          | true => exact absurd ⟨t, ht, hb, ha⟩ hno
/-- an infinite path that visits good nodes again and again -/
def Path (mv : Nat → List Int) (goods : Nat → Bool) (s : Nat) : Prop := ∃ π : Nat → Nat, π 0 = s ∧ (∀ i, ((π (i + 1) : Nat) : Int) ∈ mv (π i)) ∧ ∀ i, ∃ j, i < j ∧ goods (π j) = true
/-- all targets are nodes -/
def Bnd (mv : Nat → List Int) (n : Nat) : Prop := ∀ k, k < n → ∀ t ∈ mv k, 0 ≤ t ∧ t < (n : Int)
theorem path_of {K : Nat → Bool} (hb : Bnd mv n) (hK : ∀ k, k < n → K k = true → ∃ m, Rch mv goods K m k) {s : Nat} (hs : s < n) (ks : K s = true) : Path mv goods s := by
  have next : ∀ p : {p : Nat × Nat // p.1 < n ∧ K p.1 = true ∧ Rch mv goods K p.2 p.1}, ∃ q : {p : Nat × Nat // p.1 < n ∧ K p.1 = true ∧ Rch mv goods K p.2 p.1}, ((q.1.1 : Nat) : Int) ∈ mv p.1.1 ∧ (p.1.2 = 0 → goods q.1.1 = true) ∧ ∀ m, p.1.2 = m + 1 → q.1.2 = m := by
    rintro ⟨⟨k, m⟩, hk, hkk, hr⟩
    cases m with
    | zero =>
      obtain ⟨t, ht, kt, gt⟩ := hr
      obtain ⟨t0, t1⟩ := hb k hk t ht
      obtain ⟨m', hm'⟩ := hK t.toNat (by omega) kt
      refine ⟨⟨⟨t.toNat, m'⟩, by show t.toNat < n; omega, kt, hm'⟩, ?_, fun _ => gt, fun m h => by cases h⟩
      show ((t.toNat : Nat) : Int) ∈ mv k
      rw [show ((t.toNat : Nat) : Int) = t by omega]
      exact ht
    | succ m =>
      obtain ⟨t, ht, kt, rt⟩ := hr
      obtain ⟨t0, t1⟩ := hb k hk t ht
      refine ⟨⟨⟨t.toNat, m⟩, by show t.toNat < n; omega, kt, rt⟩, ?_, (fun h => by cases h), fun m' h => (Nat.succ.inj h : m = m')⟩
      show ((t.toNat : Nat) : Int) ∈ mv k
      rw [show ((t.toNat : Nat) : Int) = t by omega]
      exact ht
  obtain ⟨m, hm⟩ := hK s hs ks
  let σ : Nat → {p : Nat × Nat // p.1 < n ∧ K p.1 = true ∧ Rch mv goods K p.2 p.1} := fun i => Nat.rec ⟨⟨s, m⟩, hs, ks, hm⟩ (fun _ p => Classical.choose (next p)) i
  have hσ : ∀ i, ((((σ (i + 1)).1.1 : Nat) : Int) ∈ mv (σ i).1.1) ∧ ((σ i).1.2 = 0 → goods (σ (i + 1)).1.1 = true) ∧ ∀ m, (σ i).1.2 = m + 1 → (σ (i + 1)).1.2 = m := fun i => Classical.choose_spec (next (σ i))
  refine ⟨fun i => (σ i).1.1, rfl, fun i => (hσ i).1, fun i => ?_⟩
  have key : ∀ m i, (σ i).1.2 = m → ∃ j, i < j ∧ goods (σ j).1.1 = true := by
    intro m
    induction m with
    | zero => exact fun i h => ⟨i + 1, by omega, (hσ i).2.1 h⟩
    | succ m ih =>
      intro i h
      obtain ⟨j, hj, hg⟩ := ih (i + 1) ((hσ i).2.2 m h)
      exact ⟨j, by omega, hg⟩
  exact key _ i rfl
theorem path_lt (hb : Bnd mv n) {π : Nat → Nat} (h0 : π 0 < n) (hπ : ∀ i, ((π (i + 1) : Nat) : Int) ∈ mv (π i)) : ∀ i, π i < n
  | 0 => h0
  | i + 1 => by
    have := hb (π i) (path_lt hb h0 hπ i) _ (hπ i)
    omega
theorem out_path (hb : Bnd mv n) {π : Nat → Nat} (h0 : π 0 < n) (hπ : ∀ i, ((π (i + 1) : Nat) : Int) ∈ mv (π i)) (hg : ∀ i, ∃ j, i < j ∧ goods (π j) = true) : ∀ f k, (∀ i, k (π i) = true) → ∀ i, out mv goods n f k (π i) = true
  | 0, k, h => h
  | f + 1, k, h => by
    unfold out
    split
    · exact h
    · refine out_path hb h0 hπ hg f _ fun i => ?_
      have hc := inn_clo (mv := mv) (goods := goods) (n := n) (kept := k) (n + 1) (fun _ => false) (by omega)
      have hlt := path_lt hb h0 hπ
      have key : ∀ d i, goods (π (i + d + 1)) = true → inn mv goods n k (n + 1) (fun _ => false) (π i) = true := by
        intro d
        induction d with
        | zero =>
          intro i hgi
          refine hc (π i) (hlt i) (h i) (hit_iff.mpr ⟨_, hπ i, ?_, .inl ?_⟩)
          · rw [Int.toNat_natCast]; exact h _
          · rw [Int.toNat_natCast]; exact hgi
        | succ d ih =>
          intro i hgi
          refine hc (π i) (hlt i) (h i) (hit_iff.mpr ⟨_, hπ i, ?_, .inr ?_⟩)
          · rw [Int.toNat_natCast]; exact h _
          · rw [Int.toNat_natCast]
            exact ih (i + 1) (by rw [show i + 1 + d + 1 = i + (d + 1) + 1 by omega]; exact hgi)
      obtain ⟨j, hj, hgj⟩ := hg i
      exact key (j - i - 1) i (by rw [show i + (j - i - 1) + 1 = j by omega]; exact hgj)
/-- `lives` is true exactly if an infinite path from one of the starts visits good nodes again and again -/
theorem lives_iff (hb : Bnd mv n) {ss : List Int} (hs : ∀ s ∈ ss, 0 ≤ s ∧ s < (n : Int)) : lives mv goods n ss = true ↔ ∃ s ∈ ss, Path mv goods s.toNat := by
  unfold lives
  rw [List.any_eq_true]
  constructor
  · rintro ⟨s, h1, h2⟩
    have hr := hs s h1
    have hf := out_fix (mv := mv) (goods := goods) (n := n) (n + 1) (fun _ => true) (by rw [cnt_all]; omega)
    refine ⟨s, h1, path_of (K := out mv goods n (n + 1) fun _ => true) hb (fun k hk hkk => ?_) (by omega) h2⟩
    rw [← hf k hk] at hkk
    exact (inn_snd (mv := mv) (goods := goods) (n := n) (n + 1) (fun _ => false) (fun t ht => by cases ht) k hkk).2
  · rintro ⟨s, h1, π, p0, p1, p2⟩
    have hr := hs s h1
    refine ⟨s, h1, ?_⟩
    have := out_path hb (π := π) (by rw [p0]; omega) p1 p2 (n + 1) (fun _ => true) (fun _ => rfl) 0
    rw [p0] at this
    exact this
end
end Lv
namespace Lv
open Gr
theorem nd_le {l : List Nat} {n : Nat} (nd : l.Nodup) (lt : ∀ x ∈ l, x < n) : l.length ≤ n := by
  have h := wsum_le (fun _ => 1) n nd lt
  have h1 : ∀ l : List Nat, wsum (fun _ => 1) l = l.length := by
    intro l
    induction l with
    | nil => rfl
    | cons x l ih => rw [wsum_cons, ih, List.length_cons]; omega
  have h2 : ∀ n, below (fun _ => 1) n = n := by
    intro n
    induction n with
    | zero => rfl
    | succ n ih => show below _ n + 1 = _; rw [ih]
  rw [h1, h2] at h
  exact h
theorem pigeon {n : Nat} {f : Nat → Nat} (h : ∀ k, k ≤ n → f k < n) : ∃ i j, i < j ∧ j ≤ n ∧ f i = f j := by
  refine Classical.byContradiction fun hno => ?_
  have nd : ((List.range (n + 1)).map f).Nodup := by
    rw [List.nodup_iff_pairwise_ne, List.pairwise_map]
    refine List.Pairwise.imp_of_mem (R := (· < ·)) (fun {a b} ha hb hab e => hno ⟨a, b, hab, ?_, e⟩) List.pairwise_lt_range
    have := List.mem_range.mp hb
    omega
  have := nd_le nd fun x hx => by
    obtain ⟨k, hk, rfl⟩ := List.mem_map.mp hx
    exact h k (by have := List.mem_range.mp hk; omega)
  rw [List.length_map, List.length_range] at this
  omega
theorem rc_path {g : G} {π : Nat → Nat} (hπ : ∀ i, E g (π i) (π (i + 1))) (i : Nat) : ∀ d, Rc g (π i) (π (i + d))
  | 0 => .refl _
  | d + 1 => (rc_path hπ i d).snoc (hπ (i + d))
theorem path_cyc {g : G} {goods : Nat → Bool} {n : Nat} {π : Nat → Nat} (hlt : ∀ i, π i < n) (hπ : ∀ i, E g (π i) (π (i + 1))) (hg : ∀ i, ∃ j, i < j ∧ goods (π j) = true) : ∃ a, goods a = true ∧ Rc g (π 0) a ∧ Cyc g a := by
  let t : Nat → Nat := fun k => Nat.rec (Classical.choose (hg 0)) (fun _ p => Classical.choose (hg p)) k
  have ht : ∀ k, t k < t (k + 1) ∧ goods (π (t (k + 1))) = true := fun k => Classical.choose_spec (hg (t k))
  have hmono : ∀ i d, t i < t (i + d + 1) := by
    intro i d
    induction d with
    | zero => exact (ht i).1
    | succ d ih => exact Nat.lt_trans ih (ht (i + d + 1)).1
  obtain ⟨i, j, hij, _, e⟩ := pigeon (n := n) (f := fun k => π (t (k + 1))) fun k _ => hlt _
  have h1 : t (i + 1) < t (j + 1) := by
    have := hmono (i + 1) (j - i - 1)
    rwa [show i + 1 + (j - i - 1) + 1 = j + 1 by omega] at this
  refine ⟨π (t (i + 1)), (ht i).2, ?_, π (t (i + 1) + 1), hπ _, ?_⟩
  · have := rc_path hπ 0 (t (i + 1))
    rwa [Nat.zero_add] at this
  · have h2 := rc_path hπ (t (i + 1) + 1) (t (j + 1) - (t (i + 1) + 1))
    rw [show t (i + 1) + 1 + (t (j + 1) - (t (i + 1) + 1)) = t (j + 1) by omega] at h2
    have e : π (t (i + 1)) = π (t (j + 1)) := e
    rw [e]
    rw [← e] at h2 ⊢
    exact h2
theorem cyc_path {g : G} {mv : Nat → List Int} {goods : Nat → Bool} {n : Nat} (hE : ∀ u v, u < n → (E g u v ↔ (v : Int) ∈ mv u)) (hb : Bnd mv n) {s a : Nat} (hs : s < n) (ha : goods a = true) (r : Rc g s a) (hc : Cyc g a) : Path mv goods s := by
  have ok : ∀ u v, u < n → E g u v → v < n := fun u v hu e => by
    have := hb u hu _ ((hE u v hu).mp e)
    omega
  have step : ∀ v b, Rc g v b → b = a → ∀ u, u < n → E g u v → ∃ m, Rch mv goods (fun u => @decide (Rc g u a) (Classical.propDecidable _)) m u := by
    intro v b r
    induction r with
    | refl v =>
      rintro rfl u hu e
      refine ⟨0, (v : Int), (hE u v hu).mp e, ?_, ?_⟩
      · rw [Int.toNat_natCast]; exact @decide_eq_true _ (Classical.propDecidable _) (Rc.refl v)
      · rw [Int.toNat_natCast]; exact ha
    | @step v w b e2 r5 ih =>
      rintro rfl u hu e
      obtain ⟨m, hm⟩ := ih rfl v (ok u v hu e) e2
      refine ⟨m + 1, (v : Int), (hE u v hu).mp e, ?_, ?_⟩
      · rw [Int.toNat_natCast]; exact @decide_eq_true _ (Classical.propDecidable _) (Rc.step e2 r5)
      · rw [Int.toNat_natCast]; exact hm
  refine path_of (K := fun u => @decide (Rc g u a) (Classical.propDecidable _)) hb (fun k hk hkk => ?_) hs (@decide_eq_true _ (Classical.propDecidable _) r)
  have rk := @of_decide_eq_true _ (Classical.propDecidable _) hkk
  rcases rk.cases_step with rfl | ⟨w, e, r2⟩
  · obtain ⟨v, e, r2⟩ := hc
    exact step v _ r2 rfl _ hk e
  · exact step w _ r2 rfl _ hk e
theorem lives_cyc {g : G} {mv : Nat → List Int} {goods : Nat → Bool} {n : Nat} (hE : ∀ u v, u < n → (E g u v ↔ (v : Int) ∈ mv u)) (hb : Bnd mv n) {ss : List Int} (hs : ∀ s ∈ ss, 0 ≤ s ∧ s < (n : Int)) : lives mv goods n ss = true ↔ ∃ s ∈ ss, ∃ a, goods a = true ∧ Rc g s.toNat a ∧ Cyc g a := by
  rw [lives_iff hb hs]
  constructor
  · rintro ⟨s, h1, π, p0, p1, p2⟩
    have hr := hs s h1
    have hlt := path_lt hb (π := π) (by rw [p0]; omega) p1
    obtain ⟨a, h2, h3, h4⟩ := path_cyc (g := g) hlt (fun i => (hE _ _ (hlt i)).mpr (p1 i)) p2
    rw [p0] at h3
    exact ⟨s, h1, a, h2, h3, h4⟩
  · rintro ⟨s, h1, a, h2, h3, h4⟩
    have hr := hs s h1
    exact ⟨s, h1, cyc_path hE hb (by omega) h2 h3 h4⟩
end Lv
/-! own rule: enumerate of a tuple -/
namespace Bx
open PySem PySem.Spec PyProof.Rows L2
open AutoSeq1 (wpAny_loadPart')
theorem meets_enumerate_newT (l : Addr) (items : Array Value) (n : Nat) (dct : Option Addr) (sl : Array (Option Value)) :
    Meets (Builtin.«enumerate.__new__» ⟨[.type "enumerate", .ref l], []⟩) (fun _ R s => s.heap.get? l = some { cls := .type "tuple", dict := dct, data := .seq items n, slots := sl } ∧
      R (.ok (.ret (.ref (s.heap.push { cls := .type "tuple_iterator", data := .fields #[.ref l, .int 0 0] }).objs.size)))
        { s with heap := (s.heap.push { cls := .type "tuple_iterator", data := .fields #[.ref l, .int 0 0] }).push { cls := .type "enumerate", data := .fields #[.none, .bool false, .ref s.heap.objs.size, rawInt 0, .none, .none] } }) :=
  .of_wp fun prog w A R s h => by
    obtain ⟨hp, g, d, tk, os⟩ := s; obtain ⟨hl, h⟩ := h
    have hsub := sub_enumerate
    have hL : Heap.IsTuple (Shared.heap ⟨hp, g, d, tk, os⟩) l items := ⟨_, hl, rfl, n, rfl⟩
    wp_walk using wpAny_loadPart' hl
    refine wpAny_stack_any fun st => wpAny_pure ?_
    split
    · rename_i c _ _ _ _ _
      cases (c == Value.type "enumerate")
      · wp_walk using wpAny_loadPart' hl, wpAny_pyIter_tuple hL
        exact ⟨_, rfl, h⟩
      · wp_walk using wpAny_loadPart' hl, wpAny_pyIter_tuple hL
        exact ⟨_, rfl, h⟩
    · wp_walk using wpAny_loadPart' hl, wpAny_pyIter_tuple hL
      exact ⟨_, rfl, h⟩
theorem call_enumerate_tuple {prog : Program} {w : World} {A : Around} {E : Value → Shared → Prop} {s : Shared} {l : Addr} {items : Array Value} {Q : Value → Shared → Prop} (hL : s.heap.IsTuple l items)
    (h : ∀ h', IsEnum h' (s.heap.objs.size + 1) s.heap.objs.size 0 .none → h'.IsTupleIter s.heap.objs.size l 0 → h'.objs.size = s.heap.objs.size + 2 →
      (∀ b o, s.heap.get? b = some o → h'.get? b = some o) → Q (.ref (s.heap.objs.size + 1)) { s with heap := h' }) :
    wpAny (model prog w) A (call (.type "enumerate") [.ref l]) Q E s := by
  obtain ⟨⟨c, dct, dt, sl⟩, hl, hc, n, hd⟩ := hL
  replace hc : c = .type "tuple" := hc
  replace hd : dt = .seq items n := hd
  subst hc hd
  refine callType_new F.called_enumerate (by decide) (F.typeCall_enumerate_1 _) (F.newCall_enumerate_1 _) (fun obj => F.args_object_init_2 obj _) F.entry_enumerate_new
    (meets_enumerate_newT l items n dct sl) ⟨hl, ?_⟩
  have hz : (s.heap.push { cls := .type "tuple_iterator", data := .fields #[.ref l, .int 0 0] }).objs.size = s.heap.objs.size + 1 := Heap.size_push ..
  show _ ∧ _
  rw [hz]
  have he : IsEnum ((s.heap.push { cls := .type "tuple_iterator", data := .fields #[.ref l, .int 0 0] }).push
      { cls := .type "enumerate", data := .fields #[.none, .bool false, .ref s.heap.objs.size, rawInt 0, .none, .none] }) (s.heap.objs.size + 1) s.heap.objs.size 0 .none := by
    have := Heap.get?_push_size (s.heap.push { cls := .type "tuple_iterator", data := .fields #[.ref l, .int 0 0] })
      (o := { cls := .type "enumerate", data := .fields #[.none, .bool false, .ref s.heap.objs.size, rawInt 0, .none, .none] }) rfl
    rw [hz] at this; exact this
  refine ⟨⟨_, he, rfl⟩, h _ he ⟨_, Heap.get?_push_of_some _ (Heap.get?_push_size _ rfl), rfl, rfl⟩ (by rw [Heap.size_push, hz]) fun b o x => Heap.get?_push_of_some _ (Heap.get?_push_of_some _ x)⟩
/-- the tuple at a, each item in a new pair -/
def IteT (K : PySem.W.Frag) (a : Addr) : It :=
  ⟨fun i H => ∃ (xs : List V) (x : V), SqT K H a xs ∧ xs[i]? = some x, fun i H v H' => ∃ T x, v = .ref T ∧ H T = none ∧ H' = upd H T (.tup [.int (i : Nat), x]) ∧ ∀ xs, SqT K H a xs → xs[i]? = some x, fun i H => ∃ xs : List V, SqT K H a xs ∧ xs.length ≤ i⟩
theorem turn_enumT {P : Program} {w : World} {K : PySem.W.Frag} {elts : List Expr} {kk : Nat} {tpos : Pos} (a e it : Addr) :
    Turn P w K (.Tuple elts kk tpos) (IteT K a) [e, it] e (fun i h => (∃ old, IsEnum h e it ((i : Nat) : Int) old) ∧ h.IsTupleIter it a i ∧ e ≠ it) where
  mem := by simp
  obj := fun i h st b hb => by
    obtain ⟨⟨old, he⟩, ⟨o, ho, hc, hd⟩, _⟩ := st
    have e' : b = e ∨ b = it := by simpa using hb
    rcases e' with z | z
    · rw [z]; exact ⟨_, he, fun v q => nomatch q⟩
    · rw [z]; exact ⟨o, ho, fun v q => by rw [hd] at q; cases q⟩
  keep := fun i h h' st k => let ⟨⟨old, he⟩, hi, hne⟩ := st; ⟨⟨old, k e (by simp) _ he⟩, hi.at fun o q => k it (by simp) o q, hne⟩
  item := by
    intro X hP hw hK hc i pins s σ H E I hf st hg
    subst hP hw hK
    obtain ⟨⟨old, he⟩, hit, hne⟩ := st
    obtain ⟨xs, x, hq, hx⟩ := hg
    obtain ⟨its, rv, p, hz⟩ := I.tuple hq
    obtain ⟨u, hu, ru⟩ := rv.get hx
    have hel : e < s.heap.objs.size := Heap.lt_size he
    have hil : it < s.heap.objs.size := by obtain ⟨_, q, _⟩ := hit; exact Heap.lt_size q
    obtain ⟨oa, hoa, hca, na, hda⟩ := id p
    have hai : a ≠ it := fun z => by
      obtain ⟨o, ho, hc', hd'⟩ := hit
      rw [← z, hoa] at ho
      cases ho
      rw [hda] at hd'
      cases hd'
    have hae : e ≠ a := fun z => by
      have he' := he
      unfold IsEnum at he'
      rw [z, hoa] at he'
      cases he'
      cases hda
    have hii : i < its.toArray.size := by
      rcases Nat.lt_or_ge i its.toArray.size with y | y
      · exact y
      · rw [List.getElem?_eq_none (by simpa using y)] at hu
        cases hu
    have hh1 : X.A.in1.handled = none := by simp [I.ok.hd hc]
    refine wpAny_pyNext_enum_itemD (Draws.tuple (prog := X.prog) (w := X.w) hh1 it a hai its.toArray) he ⟨hit, p⟩ hii hne (by simp only [List.mem_cons, List.not_mem_nil, or_false, not_or]; exact ⟨hne, hae⟩) fun v h' tk hv ho hit' hT hsz hk => ?_
    have ev : v = u := by
      have : its[i]? = some v := by simpa using hv
      rw [hu] at this
      exact (Option.some.inj this).symm
    subst ev
    refine ⟨_, rfl, wpAny_letOwnedTupleGo_enum (s := { s with heap := h', toks := tk + 1 }) ho fun h'' he' sb => ?_⟩
    have hT2 : h''.get? s.heap.objs.size = some { cls := .type "tuple", data := .seq #[.int i tk, v] } := (sb.2 _ (Nat.ne_of_gt hel)).trans hT
    have new : ObjOk X.prog X.w (upd H s.heap.objs.size (.tup [.int (i : Nat), x])) h'' s.heap.objs.size (.tup [.int (i : Nat), x]) :=
      ⟨by show 2 ≤ sizeLine; decide, [.int i tk, v], .cons ⟨_, rfl⟩ (.cons ru .nil), ⟨_, hT2, rfl, _, rfl⟩⟩
    have I1 : Inv X pins σ (upd H s.heap.objs.size (.tup [.int (i : Nat), x])) { s with heap := h'', toks := tk + 1 } :=
      I.turnedNew (ch := [e, it]) (fun b ob hb q => (sb.2 b (fun z => hb (by simp [z]))).trans (hk b ob (fun z => hb (by simp [z])) (fun z => hb (by simp [z])) q)) hf (Nat.le_refl _) new
    refine ⟨.ref s.heap.objs.size, _, I1, rfl, ⟨_, x, rfl, I.hok.fresh (Nat.le_refl _), rfl, fun ys hy => by rw [I.tuple_inj hy hq]; exact hx⟩, ⟨⟨v, ?_⟩, hit'.1.at fun o q => (sb.2 it (Ne.symm hne)).trans q, hne⟩, fun b hb => ?_⟩
    · have e1 : ((i + 1 : Nat) : Int) = (i : Int) + 1 := by omega
      rw [e1]; exact he'
    · have hb' : b < s.heap.objs.size := by
        have e' : b = e ∨ b = it := by simpa using hb
        rcases e' with z | z
        · rw [z]; exact hel
        · rw [z]; exact hil
      rw [upd_ne (Nat.ne_of_lt hb')]
      exact (hf b hb).1
  done := by
    intro X hP hw hK hc i pins s σ H E I hf st hg
    subst hP hw hK
    obtain ⟨⟨old, he⟩, hit, hne⟩ := st
    obtain ⟨xs, hq, hx⟩ := hg
    obtain ⟨its, rv, p, hz⟩ := I.tuple hq
    obtain ⟨f0, f1, f2, f3, f4, f5⟩ := hf it (by simp)
    have hl := rv.length
    have hT : s.TypeIs (.ref e) "enumerate" := ⟨_, he, rfl⟩
    unfold pyNext
    refine wpAny_bind (wpAny_attempt (wpAny_callSpecial?_slot (name := Str.ofString "__next__") hT F.slot_enumerate_next
      (wpAny_call_entry F.slot_enumerate_next hT F.entry_enumerate_next ?_ (F.args_enumerate_next_1 _))))
    show wpAny _ _ (field (.ref e) 2 >>= _) _ _ _
    refine wpAny_bind (wpAny_field he rfl (x := .ref it) rfl ?_)
    refine wpAny_bind (wpAny_nextOf_tuple_end (I.ok.hd hc) hit p (by simp; omega) fun h' x he' hx' => ?_)
    obtain ⟨o, ho, hc⟩ := hx'
    refine wpAny_bind (wpAny_isInstance (T := "StopIteration") (b := true) ⟨o, ho, hc⟩ isSubtype_stop ?_)
    exact wpAny_pure ⟨rfl, I.turned (t' := s.toks) (fun b o hb q => he' b o hb q) f0 f1 f3 f4 f5⟩
  self := fun A i s Q E st h => let ⟨⟨_, he⟩, _⟩ := st; wpAny_pyIter_enum he h
def iEnumT (K : PySem.W.Frag) (ta : TA) : TI := fun σ H R => ta σ H fun vs H1 => ∃ a xs, vs = [.ref a] ∧ SqT K H1 a xs ∧ R (IteT K a) H1
theorem pi_enumT {X : Cx} {e : Expr} {ta : TA} {p pos tpos : Pos} {elts : List Expr} {kk : Nat} (hg : Gl X "enumerate") (hm : X.mg "enumerate" = none) (ha : PA X [e] ta) (hs : starEach [e] X.env = [(false, eval e X.env)] := by rfl) :
    PI X (.Tuple elts kk tpos) (.Call (.Name "enumerate" p) [e] [] pos) (iEnumT X.K ta) := by
  refine ⟨fun pins s σ H R I h => ?_⟩
  refine Call_ (ld_blt I hg hm boot_enumerate (PyProof.Rows.callWith_type1 (thn (ha.run pos pins s σ H _ I h) fun us s1 ⟨vs, H1, I1, r1, q1⟩ => ?_) hs rfl))
  obtain ⟨a, xs, ex, hq, q⟩ := q1
  subst ex
  cases r1 with
  | cons r rr =>
    cases rr
    cases r
    obtain ⟨its, rv, p', hz⟩ := I1.tuple hq
    refine call_enumerate_tuple p' fun h' he hit hsz hk => wpAny_pyIter_enum he ?_
    have I2 : Inv X pins σ H1 { s1 with heap := h' } := I1.kept (t' := s1.toks) hk
    refine ⟨s1.heap.objs.size + 1, [s1.heap.objs.size + 1, s1.heap.objs.size], _, _, H1, rfl, I2, turn_enumT a (s1.heap.objs.size + 1) s1.heap.objs.size, ⟨⟨.none, he⟩, hit, Nat.succ_ne_self _⟩, fun b hb => ?_, q⟩
    have e' : b = s1.heap.objs.size + 1 ∨ b = s1.heap.objs.size := by simpa using hb
    have hle : s1.heap.objs.size ≤ b := by
      rcases e' with z | z
      · rw [z]; exact Nat.le_add_right _ _
      · rw [z]; exact Nat.le_refl _
    exact I1.fpOk hle (I1.hok.fresh hle)
theorem walk_enumT {K : PySem.W.Frag} {a : Addr} {xs : List V} : Walk (IteT K a) xs.length (fun H => SqT K H a xs) (YPair (fun i => some (.int (i : Nat))) (fun i => xs[i]?)) := by
  refine ⟨fun i _ hi q => ⟨xs, xs[i], q, by simp [hi]⟩, fun _ q => ⟨xs, q, Nat.le_refl _⟩, fun i H v H' _ q y => ?_⟩
  obtain ⟨T, x, h1, h2, h3, h4⟩ := y
  exact ⟨T, .int (i : Nat), x, h1, h2, h3, rfl, h4 xs q⟩
end Bx
namespace Bx
open PySem PySem.Spec PyProof.Rows L2
theorem pi_enumTK {X : Cx} {K : PySem.W.Frag} (h : X.K = K) {e : Expr} {ta : TA} {p pos tpos : Pos} {elts : List Expr} {kk : Nat} (hg : Gl X "enumerate") (hm : X.mg "enumerate" = none) (ha : PA X [e] ta) (hs : starEach [e] X.env = [(false, eval e X.env)] := by rfl) :
    PI X (.Tuple elts kk tpos) (.Call (.Name "enumerate" p) [e] [] pos) (iEnumT K ta) := by
  subst h
  exact pi_enumT hg hm ha hs
/-- two clauses, the outer walk over anything -/
theorem lc2_it {J : It} {n : Nat} {G : Hp → Prop} {Y : Nat → Hp → V → Hp → Prop} (w : Walk J n G Y) {g g1 : TG} {tt tt1 : TT} {wi1 : TI} {te : TE} {vs vs1 : List Nat} {σ : L2.St} {H1 : Hp} {D : Addr} {Qd : Hp → Prop} (Pv : Nat → Hp → Prop) (h0 : Pv 0 (upd H1 D (.lst []))) (hG : ∀ i H, i ≤ n → Pv i H → G H)
    (hs : ∀ i x H H0, i < n → Pv i H → Y i H x H0 → g x (wipe σ vs) H0 fun σ2 H2 => wipe σ2 vs = wipe σ vs ∧ tt σ2 H2 fun b H3 => if b = true then wi1 σ2 H3 fun J1 H4 => ∃ W1 : Nat → Nat → Hp → Prop, (∃ m, W1 0 m H4) ∧ ∀ j k H, W1 j k H →
      (J1.stop j H ∧ Pv (i + 1) H) ∨ (J1.go j H ∧ ∃ Nx1 : Hp → Prop, (∀ H', Nx1 H' → ∃ k', k' < k ∧ W1 (j + 1) k' H') ∧ ∀ x H', J1.yld j H x H' → g1 x (wipe σ2 vs1) H' fun σ3 H5 => wipe σ3 vs1 = wipe σ2 vs1 ∧ tt1 σ3 H5 fun b H6 =>
        if b = true then te σ3 H6 fun y H7 => ∃ acc, H7 D = some (.lst acc) ∧ acc.length < sizeLine ∧ Nx1 (upd H7 D (.lst (acc ++ [y]))) else Nx1 H6) else Pv (i + 1) H3) (hd : ∀ H, Pv n H → Qd H) :
    ∃ W : Nat → Nat → Hp → Prop, (∃ m, W 0 m (upd H1 D (.lst []))) ∧ ∀ i m H, W i m H →
      (J.stop i H ∧ Qd H) ∨ (J.go i H ∧ ∃ Nx : Hp → Prop, (∀ H', Nx H' → ∃ m', m' < m ∧ W (i + 1) m' H') ∧ ∀ x H', J.yld i H x H' → g x (wipe σ vs) H' fun σ2 H2 => wipe σ2 vs = wipe σ vs ∧ tt σ2 H2 fun b H3 =>
        if b = true then wi1 σ2 H3 fun J1 H4 => ∃ W1 : Nat → Nat → Hp → Prop, (∃ m, W1 0 m H4) ∧ ∀ j k H, W1 j k H →
          (J1.stop j H ∧ Nx H) ∨ (J1.go j H ∧ ∃ Nx1 : Hp → Prop, (∀ H', Nx1 H' → ∃ k', k' < k ∧ W1 (j + 1) k' H') ∧ ∀ x H', J1.yld j H x H' → g1 x (wipe σ2 vs1) H' fun σ3 H5 => wipe σ3 vs1 = wipe σ2 vs1 ∧ tt1 σ3 H5 fun b H6 =>
            if b = true then te σ3 H6 fun y H7 => ∃ acc, H7 D = some (.lst acc) ∧ acc.length < sizeLine ∧ Nx1 (upd H7 D (.lst (acc ++ [y]))) else Nx1 H6) else Nx H3) := by
  refine ⟨fun i m H => m = n - i ∧ i ≤ n ∧ Pv i H, ⟨n, by simp, Nat.zero_le _, h0⟩, ?_⟩
  rintro i m H ⟨rfl, hi, p⟩
  have q := hG i H hi p
  rcases Nat.lt_or_ge i n with c | c
  · exact .inr ⟨w.goes i H c q, Pv (i + 1), fun H' p' => ⟨n - (i + 1), by omega, rfl, c, p'⟩, fun x H' y => hs i x H H' c p (w.yields i H x H' c q y)⟩
  · have e : i = n := Nat.le_antisymm hi c
    subst e
    exact .inl ⟨w.stops H q, hd H p⟩
/-- .. the inner walk over anything -/
theorem lc2_inIt {J : It} {n : Nat} {G : Hp → Prop} {Y : Nat → Hp → V → Hp → Prop} (w : Walk J n G Y) {g1 : TG} {tt1 : TT} {te : TE} {vs1 : List Nat} {σ2 : L2.St} {H4 : Hp} {D : Addr} {Nx : Hp → Prop} (Pv : Nat → Hp → Prop) (h0 : Pv 0 H4) (hG : ∀ i H, i ≤ n → Pv i H → G H)
    (hs : ∀ j x H H0, j < n → Pv j H → Y j H x H0 → g1 x (wipe σ2 vs1) H0 fun σ3 H5 => wipe σ3 vs1 = wipe σ2 vs1 ∧ tt1 σ3 H5 fun c H6 => if c = true then te σ3 H6 fun y H7 => ∃ acc, H7 D = some (.lst acc) ∧ acc.length < sizeLine ∧ Pv (j + 1) (upd H7 D (.lst (acc ++ [y]))) else Pv (j + 1) H6)
    (hd : ∀ H, Pv n H → Nx H) :
    ∃ W1 : Nat → Nat → Hp → Prop, (∃ m, W1 0 m H4) ∧ ∀ j k H, W1 j k H →
      (J.stop j H ∧ Nx H) ∨ (J.go j H ∧ ∃ Nx1 : Hp → Prop, (∀ H', Nx1 H' → ∃ k', k' < k ∧ W1 (j + 1) k' H') ∧ ∀ x H', J.yld j H x H' → g1 x (wipe σ2 vs1) H' fun σ3 H5 => wipe σ3 vs1 = wipe σ2 vs1 ∧ tt1 σ3 H5 fun c H6 =>
        if c = true then te σ3 H6 fun y H7 => ∃ acc, H7 D = some (.lst acc) ∧ acc.length < sizeLine ∧ Nx1 (upd H7 D (.lst (acc ++ [y]))) else Nx1 H6) := by
  refine ⟨fun j m H => m = n - j ∧ j ≤ n ∧ Pv j H, ⟨n, by simp, Nat.zero_le _, h0⟩, ?_⟩
  rintro j m H ⟨rfl, hj, p⟩
  have q := hG j H hj p
  rcases Nat.lt_or_ge j n with c | c
  · exact .inr ⟨w.goes j H c q, Pv (j + 1), fun H' p' => ⟨n - (j + 1), by omega, rfl, c, p'⟩, fun x H' y => hs j x H H' c p (w.yields j H x H' c q y)⟩
  · have e : j = n := Nat.le_antisymm hj c
    subst e
    exact .inl ⟨w.stops H q, hd H p⟩
end Bx
namespace Bx
open PySem PySem.Spec PyProof.Rows L2
theorem call_anyK {X : Cx} {K : PySem.W.Frag} (h : X.K = K) (hc : X.calm = true) : CallR X (.builtin "any") (rAny K) := by
  subst h
  exact cr_any hc
end Bx
/-! closures that are handed on: defs in a def with cells of their own, called where the maker's frame is out of sight -/
namespace Clo
open PySem PySem.Spec PyProof.Rows L2 LamX NdefX
/-! ### the frame of a closure -/
theorem cellsFrom_acc : ∀ (names : List (Str × NameKind)) (n : Nat) (acc : List (Str × Addr)), cellsFrom n names acc = cellsFrom n names [] ++ acc
  | [], _, _ => rfl
  | (x, k) :: r, n, acc => by
    unfold cellsFrom
    split
    · rw [cellsFrom_acc r (n + 1) ((x, n) :: acc), cellsFrom_acc r (n + 1) [(x, n)], List.append_assoc]
      rfl
    · exact cellsFrom_acc r n acc
theorem look_app {α : Type} {l m : List (Str × α)} {x : Str} : (l ++ m).lookup x = (l.lookup x).or (m.lookup x) := List.lookup_append
theorem forIn_same {f g : Str × Value → PUnit → Sem (ForInStep PUnit)} : ∀ (bs : List (Str × Value)), (∀ b ∈ bs, ∀ u, f b u = g b u) → (forIn bs PUnit.unit f : Sem PUnit) = forIn bs PUnit.unit g
  | [], _ => rfl
  | b :: bs, h => by
    rw [List.forIn_cons, List.forIn_cons, h b List.mem_cons_self]
    have ih := forIn_same bs fun c hc => h c (List.mem_cons_of_mem _ hc)
    congr 1
    funext r
    cases r with
    | done u => rfl
    | yield u => cases u; exact ih
/-- a store sees the cells by the name alone -/
theorem store_cells {env : Env} {cs : List (Str × Addr)} {n : Str} {v : Value} (h : env.cells.lookup n = cs.lookup n) : storeName env n v = storeName { env with cells := cs } n v := by
  have hc : PySem.cellOf env n = PySem.cellOf { env with cells := cs } n := by
    unfold PySem.cellOf
    rw [h]
  unfold storeName
  rw [hc]
  rfl
end Clo
namespace Clo
open PySem PySem.Spec PyProof.Rows L2 LamX NdefX
abbrev ownC (n : Nat) (scope : Scope) : List (Str × Addr) := cellsFrom (n + 1) scope.names []
theorem newEnv_clo {M : Model} {A : Around} {E : Value → Shared → Prop} {s : Shared} {scope : Scope} {globals : Addr} {closure : List (Str × Addr)} {binds : List (Str × Value)} {qual : Str} {func : Option Addr} {code : Value} {builtins : Addr} {Q : Env → Shared → Prop}
    (hk : scope.kind = .function) (hkind : ∀ x ∈ binds, scope.names.lookup x.1 = some .local ∨ scope.names.lookup x.1 = some .cell)
    (hcl : ∀ x ∈ binds, closure.lookup x.1 = none)
    (hQ : ∀ s', InCallC s s.heap.objs.size (bindL (fun y => scope.names.lookup y) binds fun _ => none) (ownC s.heap.objs.size scope) (bindC (fun y => scope.names.lookup y) binds fun _ => none) s' →
      Q (newEnv scope s.heap.objs.size globals (ownC s.heap.objs.size scope ++ closure) qual func code none builtins) s') :
    wpAny M A (newFunctionEnv scope globals closure binds qual func code none builtins) Q E s := by
  simp only [newFunctionEnv, Option.isSome_none, Bool.false_eq_true, if_false]
  refine wpAny_bind (wpAny_alloc ?_)
  refine wpAny_bind (wpAny_layCells _ (fun name kind cells => by cases hkc : kind == NameKind.cell <;> simp [hkc]) _ _ _ _ ?_)
  have ok := cellsFrom_ok scope.names (s.heap.push { cls := .type "frame", data := .dict #[] }) (s.heap.objs.size + 1) [] ⟨fun _ _ hm => (nomatch hm), List.Pairwise.nil⟩ (by rw [Heap.size_push]; exact Nat.le_refl _)
  rw [Heap.size_push] at ok
  rw [show ({ s with heap := s.heap.push { cls := .type "frame", data := .dict #[] } } : Shared).heap.objs.size = s.heap.objs.size + 1 from Heap.size_push .., cellsFrom_acc]
  have own : ∀ x ∈ binds, scope.names.lookup x.1 = some .local ∨ (scope.names.lookup x.1 = some .cell ∧ ((ownC s.heap.objs.size scope).lookup x.1).isSome = true) := fun x hx => (hkind x hx).imp id fun z => ⟨z, PySem.W.cellsFrom_some _ _ _ (.inl z)⟩
  rw [forIn_same (g := fun b u => do storeName { newEnv scope s.heap.objs.size globals (ownC s.heap.objs.size scope ++ closure) qual func code none builtins with cells := ownC s.heap.objs.size scope } b.1 b.2; pure (.yield ⟨⟩)) binds fun b hb u => ?_]
  · refine wpAny_bind (wpAny_bindParams (s₀ := s) (env := { newEnv scope s.heap.objs.size globals (ownC s.heap.objs.size scope ++ closure) qual func code none builtins with cells := ownC s.heap.objs.size scope })
      _ (fun _ _ _ => rfl) hk binds (fun _ => none) (fun _ => none) _ _
      ⟨⟨⟨_, _, rfl⟩, (Heap.Ns.new s.heap (.type "frame")).keeps (pushCells_keeps _ _), fun b o e => pushCells_keeps _ _ b o (Heap.get?_push_of_some _ e), Nat.le_refl _⟩,
        fun n c hc => (ok.empty n c (mem_of_lookup hc)).1, ok.apart, fun n c hm => (ok.empty n c hm).2⟩
      own fun s' x => wpAny_pure (hQ s' x))
  · have e : (newEnv scope s.heap.objs.size globals (ownC s.heap.objs.size scope ++ closure) qual func code none builtins).cells.lookup b.1 = (ownC s.heap.objs.size scope).lookup b.1 := by
      show (ownC s.heap.objs.size scope ++ closure).lookup b.1 = _
      rw [look_app, hcl b hb]
      cases (ownC s.heap.objs.size scope).lookup b.1 <;> rfl
    obtain ⟨n, v⟩ := b
    exact congrArg (fun z : Sem Unit => (do z; pure (ForInStep.yield PUnit.unit) : Sem (ForInStep PUnit))) (store_cells (v := v) e)
end Clo
namespace Clo
open PySem PySem.Spec PyProof.Rows L2 LamX NdefX
/-- the names of a closure: the parameters, then the captured ones, then its own; its own may be captured again -/
structure CScope (N ps fr : List Str) (sc : Scope) : Prop where
  kind : sc.kind = .function
  co : sc.isCoroutine = false
  gen : sc.isGenerator = false
  nd : N.Nodup
  pre : N.take (ps.length + fr.length) = ps ++ fr
  par : ∀ x ∈ ps, sc.names.lookup x = some .local ∨ sc.names.lookup x = some .cell
  free : ∀ y ∈ sc.names, y.2 = .free → y.1 ∈ fr
  frk : ∀ x ∈ fr, sc.names.lookup x = some .free
  uq : ∀ y ∈ sc.names, sc.names.lookup y.1 = some y.2
def cscB (N ps fr : List Str) (sc : Scope) : Bool :=
  decide (sc.kind = .function) && !sc.isCoroutine && !sc.isGenerator && decide N.Nodup && decide (N.take (ps.length + fr.length) = ps ++ fr) && ps.all (fun x => decide (sc.names.lookup x = some .local) || decide (sc.names.lookup x = some .cell)) && sc.names.all (fun y => !decide (y.2 = .free) || decide (y.1 ∈ fr)) && fr.all (fun x => decide (sc.names.lookup x = some .free)) && sc.names.all (fun y => decide (sc.names.lookup y.1 = some y.2))
theorem cscope_by {N ps fr : List Str} {sc : Scope} (h : cscB N ps fr sc = true) : CScope N ps fr sc := by
  unfold cscB at h
  simp only [Bool.and_eq_true, Bool.not_eq_true', decide_eq_true_eq, List.all_eq_true, Bool.or_eq_true, decide_eq_false_iff_not] at h
  obtain ⟨⟨⟨⟨⟨⟨⟨⟨h1, h2⟩, h3⟩, h4⟩, h5⟩, h6⟩, h8⟩, h9⟩, h10⟩ := h
  exact ⟨h1, h2, h3, h4, h5, h6, fun y hy e => (h8 y hy).elim (fun z => absurd e z) id, h9, h10⟩
abbrev envC (F : NF) (f L : Addr) : Env := PySem.W.envX F.qual F.scope L f (.ref F.c) (ownC L F.scope ++ F.cl)
def ncxC (CX : CXT) (P : Program) (w : World) (K : PySem.W.Frag) (mg : Str → Option Value) (base : Heap) (N : List Str) (F : NF) (f : Addr) (A : Around) (outer : List Env) (s : Shared) (H : Hp) (E : XK) : Cx where
  prog := P
  w := w
  K := K
  mg := mg
  base := base
  A := A.deeper (envC F f s.heap.objs.size)
  N := N
  s_0 := s
  H_0 := H
  env := envC F f s.heap.objs.size
  outer := outer
  stack := envC F f s.heap.objs.size :: outer
  ex := []
  calm := true
  fn := fun x => decide (F.scope.names.lookup x = some .cell)
  pn := []
  xe := fun e s' => wpAny (model P w) (A.deeper (envC F f s.heap.objs.size)) (leaving (envC F f s.heap.objs.size) e) (fun _ s'' => CX outer H s E e s'') (fun e' s'' => CX outer H s E e' s'') s'
section
variable {CX : CXT} {P : Program} {w : World} {K : PySem.W.Frag} {mg : Str → Option Value} {base : Heap} {N ps fr : List Str} {F : NF} {f : Addr} {A : Around} {outer : List Env} {s s1 : Shared} {H : Hp} {E : XK} {us : List Value} {vs : List V} {ws : List (Option V)}
theorem own_cell {sc : Scope} {n : Nat} {x : Str} {c : Addr} (h : (ownC n sc).lookup x = some c) : (x, NameKind.cell) ∈ sc.names := by
  have gen : ∀ (names : List (Str × NameKind)) (n : Nat) (acc : List (Str × Addr)), (x, c) ∈ cellsFrom n names acc → (x, c) ∈ acc ∨ (x, NameKind.cell) ∈ names := by
    intro names
    induction names with
    | nil => exact fun n acc h => .inl h
    | cons p r ih =>
      intro n acc h
      obtain ⟨y, k⟩ := p
      unfold cellsFrom at h
      split at h
      · rename_i hk
        rcases ih _ _ h with z | z
        · rcases List.mem_cons.mp z with e | z
          · have e1 : x = y := (Prod.mk.inj e).1
            have e2 : k = NameKind.cell := eq_of_beq hk
            exact .inr (by rw [e1, e2]; exact List.mem_cons_self)
          · exact .inl z
        · exact .inr (List.mem_cons_of_mem _ z)
      · rcases ih _ _ h with z | z
        · exact .inl z
        · exact .inr (List.mem_cons_of_mem _ z)
  rcases gen _ _ _ (PySem.mem_of_lookup h) with z | z
  · cases z
  · exact z
theorem inv_startC (S : CScope N ps fr F.scope) (hd : A.handled = none) (e0 : Env0 P w K mg base A outer s H) (hl : vs.length = ps.length) (r : Vals vs us) (C : CellsAt F.cl fr ws s.heap H) (hcl : ∀ y c, F.cl.lookup y = some c → F.scope.names.lookup y = some .free)
    (x : InCallC s s.heap.objs.size (bindL (fun y => F.scope.names.lookup y) (ps.zip us) fun _ => none) (ownC s.heap.objs.size F.scope) (bindC (fun y => F.scope.names.lookup y) (ps.zip us) fun _ => none) s1) :
    Inv (ncxC CX P w K mg base N F f A outer s H E) [] (startF N vs ws) H s1 := by
  have hpl : ps.length + fr.length ≤ N.length := by
    have q := congrArg List.length S.pre
    rw [List.length_take, List.length_append] at q
    omega
  obtain ⟨h1, tk, rfl, hk⟩ := x.done
  have noA : ∀ b : Addr, b ∉ (ncxC CX P w K mg base N F f A outer s H E).ex := fun b z => absurd (show b ∈ ([] : List Addr) from z) (by simp)
  have cellK : ∀ {c : Addr} {v : Option Value}, s.heap.IsCell c v → h1.IsCell c v := fun {c v} ⟨o, ho, hd⟩ => ⟨o, hk _ _ ho, hd⟩
  have cellLt : ∀ {c : Addr} {v : Option Value}, s.heap.IsCell c v → c < s.heap.objs.size := fun z => z.lt
  have look : ∀ y c, (ncxC CX P w K mg base N F f A outer s H E).env.cells.lookup y = some c → (ownC s.heap.objs.size F.scope).lookup y = some c ∨ ((ownC s.heap.objs.size F.scope).lookup y = none ∧ F.cl.lookup y = some c) := fun y c e => by
    have e : (ownC s.heap.objs.size F.scope ++ F.cl).lookup y = some c := e
    rw [look_app] at e
    cases q : (ownC s.heap.objs.size F.scope).lookup y with
    | none => rw [q] at e; exact .inr ⟨rfl, e⟩
    | some c' => rw [q] at e; exact .inl e
  have mk_own : ∀ y c, (ownC s.heap.objs.size F.scope).lookup y = some c → (ncxC CX P w K mg base N F f A outer s H E).env.cells.lookup y = some c := fun y c e => by
    show (ownC s.heap.objs.size F.scope ++ F.cl).lookup y = some c
    rw [look_app, e]; rfl
  have own_k : ∀ y c, (ownC s.heap.objs.size F.scope).lookup y = some c → F.scope.names.lookup y = some .cell := fun y c e => S.uq _ (own_cell e)
  have free_no : ∀ y, F.scope.names.lookup y = some .free → (ownC s.heap.objs.size F.scope).lookup y = none := fun y e => by
    cases q : (ownC s.heap.objs.size F.scope).lookup y with
    | none => rfl
    | some c =>
      rw [own_k y c q] at e
      cases e
  have mk_clo : ∀ y c, F.cl.lookup y = some c → (ncxC CX P w K mg base N F f A outer s H E).env.cells.lookup y = some c := fun y c e => by
    show (ownC s.heap.objs.size F.scope ++ F.cl).lookup y = some c
    rw [look_app, free_no y (hcl y c e)]
    exact e
  have above : ∀ y c, (ownC s.heap.objs.size F.scope).lookup y = some c → s.heap.objs.size < c := fun y c e => x.above y c (PySem.mem_of_lookup e)
  have below : ∀ y c, F.cl.lookup y = some c → c < s.heap.objs.size := fun y c e => by
    obtain ⟨v, z⟩ := (C.all y c e).2
    exact z.lt
  refine ⟨⟨e0.mod, S.kind, rfl, rfl, Nat.le_refl _, fun y z c h1 h2 => ?_, fun y hy => ?_, fun y c z h => ?_, fun _ => hd, Around.frames_deeper e0.frames, .inr ⟨rfl, rfl⟩, fun b z => absurd z (noA b), e0.bs, e0.bsz, fun b _ _ => noA b, fun b z => absurd z (noA b), e0.funs, e0.frf⟩,
    rfl, e0.bare, Un.kept hk, ⟨_, x.toInCall.ns, fun i y v e1 e2 e3 => ?_⟩, fun y c e => ?_, e0.hok.fresh (Nat.le_refl _), fun y c e => ?_, fun q hq => absurd (show q ∈ ([] : List (Addr × Obj)) ++ [] from hq) (by simp), e0.hok.kept hk, ?_⟩
  · rcases look y c h1 with e1 | ⟨_, e1⟩ <;> rcases look z c h2 with e2 | ⟨_, e2⟩
    · exact name_of_addr x.apart (PySem.mem_of_lookup e1) (PySem.mem_of_lookup e2)
    · exact absurd (Nat.lt_trans (above y c e1) (below z c e2)) (Nat.lt_irrefl _)
    · exact absurd (Nat.lt_trans (above z c e2) (below y c e1)) (Nat.lt_irrefl _)
    · exact C.inj y z c e1 e2
  · have hy : F.scope.names.lookup y = some .cell ∨ F.scope.names.lookup y = some .free := hy
    rcases hy with hy | hy
    · obtain ⟨c, e⟩ := cell_has (n := s.heap.objs.size + 1) hy
      exact ⟨c, mk_own y c e⟩
    · obtain ⟨i, hi⟩ := List.mem_iff_getElem?.mp (S.free _ (PySem.mem_of_lookup hy) rfl)
      obtain ⟨c, hc, _⟩ := C.has i y hi
      exact ⟨c, mk_clo y c hc⟩
  · have z : F.scope.names.lookup y = some .cell := of_decide_eq_true z
    rcases look y c h with e | ⟨_, e⟩
    · exact Nat.le_of_lt (above y c e)
    · rw [hcl y c e] at z
      cases z
  · have e1 : N[i]? = some y := e1
    have clen := C.len
    unfold startF at e2
    by_cases h1 : i < ps.length
    · have hq : (ps ++ fr)[i]? = some y := by
        rw [← S.pre, List.getElem?_take_of_lt (by omega)]
        exact e1
      rw [List.getElem?_append_left h1] at hq
      rw [List.getElem?_append_left (by rw [List.length_map]; omega), List.getElem?_map] at e2
      have ha : vs[i]? = some v := by
        cases e : vs[i]? with
        | none => rw [e] at e2; cases e2
        | some a => rw [e] at e2; cases e2; rfl
      obtain ⟨u, hu, rv⟩ := r.get ha
      have ndP : ps.Nodup := by
        have q := S.nd.sublist (List.take_sublist (ps.length + fr.length) N)
        rw [S.pre] at q
        exact (List.nodup_append.mp q).1
      refine ⟨u, rv, ?_⟩
      rcases S.par y (List.mem_of_getElem? hq) with k | k
      · exact .inl ⟨k, bindL_get ndP hq hu k⟩
      · obtain ⟨c, e⟩ := cell_has (n := s.heap.objs.size + 1) k
        refine .inr ⟨.inl k, c, mk_own y c e, ?_⟩
        have q := x.cell y c e
        rw [bindC_get ndP hq hu (by show F.scope.names.lookup y ≠ _; rw [k]; decide)] at q
        exact q
    · rw [List.getElem?_append_right (by rw [List.length_map]; omega), List.length_map] at e2
      by_cases h2 : i < ps.length + fr.length
      · have hq : (ps ++ fr)[i]? = some y := by
          rw [← S.pre, List.getElem?_take_of_lt (by omega)]
          exact e1
        rw [List.getElem?_append_right (by omega)] at hq
        rw [List.getElem?_append_left (by omega), hl] at e2
        obtain ⟨c, hc, hv⟩ := C.has (i - ps.length) y hq
        obtain ⟨u, ru, hu⟩ := hv v e2
        exact ⟨u, ru, .inr ⟨.inr (S.frk y (List.mem_of_getElem? hq)), c, mk_clo y c hc, cellK hu⟩⟩
      · rw [List.getElem?_append_right (by omega), List.getElem?_replicate] at e2
        split at e2 <;> cases e2
  · rcases look y c e with e | ⟨_, e⟩
    · exact ⟨_, x.cell y c e⟩
    · obtain ⟨v, z⟩ := (C.all y c e).2
      exact ⟨v, cellK z⟩
  · rcases look y c e with e | ⟨_, e⟩
    · exact e0.hok.fresh (Nat.le_of_lt (above y c e))
    · exact (C.all y c e).1
  · have clen := C.len
    unfold startF
    show _ = N.length
    rw [List.length_append, List.length_append, List.length_map, List.length_replicate]
    omega
end
end Clo
namespace Clo
open PySem PySem.Spec PyProof.Rows L2 LamX NdefX
section
variable {CX : CXT} {P : Program} {w : World} {K : PySem.W.Frag} {mg : Str → Option Value} {base : Heap} {N ps fr : List Str} {F : NF} {f : Addr} {k : Nat} {sp : List (Option V) → Sp}
/-- a closure by its body -/
theorem nokC_of (S : CScope N ps fr F.scope) (hcl : ∀ y c, F.cl.lookup y = some c → F.scope.names.lookup y = some .free) (hb : ∀ (doc pm ctv : Value) (us : List Value), us.length = ps.length → bindArgs (F.fd doc pm ctv) ⟨us, []⟩ = pure (ps.zip us)) (len : ∀ ws vs H Q E, sp ws vs H Q E → vs.length = ps.length)
    (hbody : ∀ (A : Around) (outer : List Env) (s : Shared) (H : Hp) (vs : List V) (ws : List (Option V)) (Q : VK) (E : XK), Room k (A.deeper (envC F f s.heap.objs.size)) → H f = some (FnO f F) → H F.c = some (CodeO F.c F.qual) → ws.length = fr.length → sp ws vs H Q E →
      ∃ t, PSs (ncxC CX P w K mg base N F f A outer s H E).nox F.body t ∧ t { nx := fun _ H' => Q .non H', rt := Q } (startF N vs ws) H) :
    NOk P w K mg base CX (k + 1) f F ps fr sp := by
  refine ⟨len, fun A outer s H us vs ws Q E hr e0 hf hc C r hsp => ?_⟩
  have hl := len _ _ _ _ _ hsp
  have lim : s.heap.NoLimit := e0.mod.nolimit.keeps fun b o e => (e0.bs b o e).1
  obtain ⟨od, sl, doc, pm, ctv, ho⟩ := fnO_at e0.hok hf
  refine codeAny_call_function hr.depth ho rfl S.co S.gen rfl (codeO_at e0.hok hc) ?_
  rw [hb doc pm ctv us (by rw [← r.length]; exact hl)]
  have hpk : ∀ x ∈ ps.zip us, F.scope.names.lookup x.1 = some .local ∨ F.scope.names.lookup x.1 = some .cell := fun ⟨n, v⟩ hx => S.par n (List.of_mem_zip hx).1
  refine wpAny_pure (newEnv_clo S.kind hpk (fun x hx => ?_) fun s1 x => ?_)
  · show F.cl.lookup x.1 = none
    cases q : F.cl.lookup x.1 with
    | none => rfl
    | some c =>
      have h1 := hcl x.1 c q
      rcases hpk x hx with h2 | h2 <;> rw [h1] at h2 <;> cases h2
  refine ⟨lim.keeps x.toInCall.keep, ?_⟩
  show codeAny _ _ (.func F.body (envC F f s.heap.objs.size)) _ _
  refine codeAny_func ?_
  obtain ⟨t, ht, hq⟩ := hbody A outer s H vs ws Q E (hr.deeper _) hf hc C.len hsp
  have I : Inv (ncxC CX P w K mg base N F f A outer s H E) [] (startF N vs ws) H s1 := inv_startC S hr.hd e0 hl r C hcl x
  refine wpAny_mono (ht.nox.run [] _ (startF N vs ws) H _ I hq) (fun fl s' hs => ?_) fun e s' hs => hs
  have fin : ∀ {σ' : L2.St} {H' : Hp} {v : V} {u : Value}, Inv (ncxC CX P w K mg base N F f A outer s H E) [] σ' H' s' → L2.RelV v u → Q v H' → CE outer P w H s Q u s' :=
    fun {σ' H' v u} J rv q => ⟨v, H', J.os, J.bare, J.base, J.hok, rv, q⟩
  cases fl with
  | ret u =>
    obtain ⟨v, σ', H', J, rv, q⟩ := hs
    exact fin J rv q
  | next =>
    obtain ⟨σ', H', J, q⟩ := hs
    exact fin (v := V.non) (u := Value.none) J rfl q
  | brk =>
    obtain ⟨_, _, _, q⟩ := hs
    exact False.elim q
  | cont =>
    obtain ⟨_, _, _, q⟩ := hs
    exact False.elim q
end
end Clo
namespace Clo
open PySem PySem.Spec PyProof.Rows L2 LamX NdefX
/-! ### cells as known things -/
/-- the object at c is a cell that holds v -/
def CelO (c : Addr) (v : V) : HO := .ext fun h => ∃ u, RelV v u ∧ h.IsCell c (some u)
/-- the cell at c is known, and never written while it is so -/
def CelH (H : Hp) (c : Addr) (v : V) : Prop := ∃ o, H c = some (.frz o (CelO c v))
abbrev adr (cl : List (Str × Addr)) : List Addr := cl.map (·.2)
def remC (cl : List (Str × Addr)) (H : Hp) : Hp := fun b => if b ∈ adr cl then none else H b
def backC (cl : List (Str × Addr)) (H H2 : Hp) : Hp := fun b => if b ∈ adr cl then H b else H2 b
def addC (cl : List (Str × Addr)) (g : Addr → V) (os : Addr → Obj) (H : Hp) : Hp := fun b => if b ∈ adr cl then some (.frz (os b) (CelO b (g b))) else H b
theorem rem_in {cl : List (Str × Addr)} {H : Hp} {b : Addr} (h : b ∈ adr cl) : remC cl H b = none := if_pos h
theorem rem_out {cl : List (Str × Addr)} {H : Hp} {b : Addr} (h : b ∉ adr cl) : remC cl H b = H b := if_neg h
theorem back_in {cl : List (Str × Addr)} {H H2 : Hp} {b : Addr} (h : b ∈ adr cl) : backC cl H H2 b = H b := if_pos h
theorem back_out {cl : List (Str × Addr)} {H H2 : Hp} {b : Addr} (h : b ∉ adr cl) : backC cl H H2 b = H2 b := if_neg h
theorem add_in {cl : List (Str × Addr)} {g : Addr → V} {os : Addr → Obj} {H : Hp} {b : Addr} (h : b ∈ adr cl) : addC cl g os H b = some (.frz (os b) (CelO b (g b))) := if_pos h
theorem add_out {cl : List (Str × Addr)} {g : Addr → V} {os : Addr → Obj} {H : Hp} {b : Addr} (h : b ∉ adr cl) : addC cl g os H b = H b := if_neg h
section
variable {P : Program} {w : World} {H H' H2 : Hp} {h h' : Heap} {cl : List (Str × Addr)}
theorem celO_ok {o : Obj} {c : Addr} {v : V} {u : Value} (e : h.get? c = some o) (r : RelV v u) (d : o.data = .cell (some u)) : ObjOk P w H h c (.frz o (CelO c v)) :=
  ⟨e, ⟨u, r, o, e, d⟩, ⟨o, e⟩, fun h1 h2 ⟨u', r', o', e', d'⟩ st => ⟨u', r', o', st _ e', d'⟩⟩
theorem celO_cell {o : Obj} {c : Addr} {v : V} (x : ObjOk P w H h c (.frz o (CelO c v))) : h.get? c = some o ∧ ∃ u, RelV v u ∧ o.data = .cell (some u) := by
  obtain ⟨e, ⟨u, r, o', e', d⟩, _⟩ := x
  rw [e] at e'
  obtain rfl := Option.some.inj e'
  exact ⟨e, u, r, d⟩
/-- the tracked heap may differ at what is none in one of them -/
theorem hok_sub (x : HOk P w H h) (s : ∀ b o, H' b = some o → H b = some o) (t : ∀ b o, H b = some o → (∃ a, o = .own a) ∨ (∃ xs, o = .tup xs) → H' b = some o) : HOk P w H' h := fun b o e =>
  (x b o (s b o e)).stay (fun _ _ _ q => q) (fun c q => t c _ q (.inl ⟨_, rfl⟩)) fun c xs q => t c _ q (.inr ⟨_, rfl⟩)
theorem hok_rem (x : HOk P w H h) (hc : ∀ b ∈ adr cl, ∃ v, CelH H b v) : HOk P w (remC cl H) h := by
  refine hok_sub x (fun b o e => ?_) fun b o e k => ?_
  · by_cases hb : b ∈ adr cl
    · rw [rem_in hb] at e; cases e
    · rwa [rem_out hb] at e
  · have hb : b ∉ adr cl := fun z => by
      obtain ⟨v, ob, q⟩ := hc b z
      rw [q] at e
      obtain rfl := Option.some.inj e
      rcases k with ⟨a, k⟩ | ⟨a, k⟩ <;> cases k
    rw [rem_out hb]
    exact e
end
end Clo
namespace Clo
open PySem PySem.Spec PyProof.Rows L2 LamX NdefX
section
variable {P : Program} {w : World} {H : Hp} {s s' : Shared} {cl : List (Str × Addr)} {outer : List Env} {Q : VK} {u : Value}
/-- behind a call for which the cells were put out of sight -/
theorem ce_back (hok : HOk P w H s.heap) (hc : ∀ b ∈ adr cl, ∃ v, CelH H b v) (nf : ∀ b ∈ adr cl, b ∉ frs outer) (h : CE outer P w (remC cl H) s (fun v H2 => (∀ b ∈ adr cl, H2 b = none) → Q v (backC cl H H2)) u s') : CE outer P w H s Q u s' := by
  obtain ⟨v, H2, os, bare, un, ok, r, q⟩ := h
  have gone : ∀ b ∈ adr cl, H2 b = none := fun b hcl => by
    obtain ⟨x', o2, e'⟩ := hc b hcl
    obtain ⟨e3, _⟩ := celO_cell (hok b _ e')
    exact un.free b _ e3 (rem_in hcl) (by simp)
  have q := q gone
  have kept : ∀ b ∈ adr cl, ∃ (o : Obj) (x : V), H b = some (.frz o (CelO b x)) ∧ s'.heap.get? b = some o ∧ ∃ y, RelV x y ∧ o.data = .cell (some y) := fun b hb => by
    obtain ⟨x, o, e⟩ := hc b hb
    obtain ⟨e1, y, ry, d⟩ := celO_cell (hok b _ e)
    exact ⟨o, x, e, un.keep b o e1 (rem_in hb) (nf b hb) (by simp), y, ry, d⟩
  refine ⟨v, backC cl H H2, os, bare, ⟨fun b o e n hf hx => ?_, fun b o e n hf hx => ?_, fun b o e n hx => ?_, fun b o e hx => un.there b o e hx, fun b xs e => ?_, fun b o x e => ?_, fun b ps e => ?_⟩, fun b o e => ?_, r, q⟩
  · have hb : b ∉ adr cl := fun z => by obtain ⟨x, o', e'⟩ := hc b z; rw [n] at e'; cases e'
    exact un.keep b o e (by rw [rem_out hb]; exact n) hf hx
  · have hb : b ∉ adr cl := fun z => by obtain ⟨x, o', e'⟩ := hc b z; rw [n] at e'; cases e'
    exact un.slot b o e (by rw [rem_out hb]; exact n) hf hx
  · have hb : b ∉ adr cl := fun z => by obtain ⟨x, o', e'⟩ := hc b z; rw [n] at e'; cases e'
    rw [back_out hb]
    exact un.free b o e (by rw [rem_out hb]; exact n) hx
  · have hb : b ∉ adr cl := fun z => by obtain ⟨x, o', e'⟩ := hc b z; rw [e] at e'; cases e'
    rw [back_out hb]
    exact un.tups b xs (by rw [rem_out hb]; exact e)
  · by_cases hb : b ∈ adr cl
    · rw [back_in hb]; exact e
    · rw [back_out hb]
      exact un.frzs b o x (by rw [rem_out hb]; exact e)
  · have hb : b ∉ adr cl := fun z => by obtain ⟨x, o', e'⟩ := hc b z; rw [e] at e'; cases e'
    rw [back_out hb]
    exact un.tbls b ps (by rw [rem_out hb]; exact e)
  · by_cases hb : b ∈ adr cl
    · rw [back_in hb] at e
      obtain ⟨o', x, e1, e2, y, ry, d⟩ := kept b hb
      rw [e1] at e
      obtain rfl := Option.some.inj e
      exact celO_ok e2 ry d
    · rw [back_out hb] at e
      have hn : ∀ c, (∃ z, H2 c = some z) → c ∉ adr cl := fun c ⟨z, hz⟩ hcl => by
        obtain ⟨o', x, e1, e2, _⟩ := kept c hcl
        obtain ⟨x', o2, e'⟩ := hc c hcl
        obtain ⟨e3, _⟩ := celO_cell (hok c _ e')
        have := un.free c _ e3 (rem_in hcl) (by simp)
        rw [this] at hz
        cases hz
      exact (ok b o e).stay (fun _ _ _ q => q) (fun c q => by rw [back_out (hn c ⟨_, q⟩)]; exact q) fun c xs q => by rw [back_out (hn c ⟨_, q⟩)]; exact q
end
section
variable {X : Cx} {F : NF} {ps fr : List Str} {f : Addr} {j k : Nat} {sp : List (Option V) → Sp} {pins : List (Addr × Obj)} {σ : L2.St} {H : Hp} {s : Shared} {Q : VK} {us : List Value} {vs : List V} {ws : List (Option V)}
/-- what the cells of F hold, as known things -/
structure Cel (F : NF) (fr : List Str) (ws : List (Option V)) (H : Hp) : Prop where
  len : ws.length = fr.length
  all : ∀ b ∈ adr F.cl, ∃ v, CelH H b v
  inj : ∀ x y c, F.cl.lookup x = some c → F.cl.lookup y = some c → x = y
  has : ∀ (i : Nat) (y : Str), fr[i]? = some y → ∃ c, F.cl.lookup y = some c ∧ ∀ v, ws[i]? = some (some v) → CelH H c v
theorem look_adr {cl : List (Str × Addr)} {y : Str} {c : Addr} (h : cl.lookup y = some c) : c ∈ adr cl := List.mem_map.mpr ⟨(y, c), PySem.mem_of_lookup h, rfl⟩
theorem Cel.at (C : Cel F fr ws H) (hok : HOk X.prog X.w H s.heap) : CellsAt F.cl fr ws s.heap (remC F.cl H) := by
  refine ⟨C.len, fun y c e => ⟨rem_in (look_adr e), ?_⟩, C.inj, fun i y e => ?_⟩
  · obtain ⟨v, o, h⟩ := C.all c (look_adr e)
    obtain ⟨e1, u, _, d⟩ := celO_cell (hok c _ h)
    exact ⟨_, o, e1, d⟩
  · obtain ⟨c, hc, hv⟩ := C.has i y e
    refine ⟨c, hc, fun v ev => ?_⟩
    obtain ⟨o, h⟩ := hv v ev
    obtain ⟨e1, u, ru, d⟩ := celO_cell (hok c _ h)
    exact ⟨u, ru, o, e1, d⟩
theorem run_clo (Fn : NOk X.prog X.w X.K X.mg X.base CX0 k f F ps fr sp) (hr : Room j X.A) (hk : k ≤ j) (I : Inv X pins σ H s) (hf : H f = some (FnO f F)) (hc : H F.c = some (CodeO F.c F.qual)) (C : Cel F fr ws H) (r : Vals vs us)
    (q : sp ws vs (remC F.cl H) (fun v H2 => (∀ b ∈ adr F.cl, H2 b = none) → Q v (backC F.cl H H2)) C8.E0) : wpAny (model X.prog X.w) X.A (call (.ref f) us) (EP X pins σ Q) X.xe s := by
  have e0 := I.env0
  have out : ∀ {a : Addr} {o : HO}, H a = some o → (∀ ob x, o ≠ .frz ob x) → a ∉ adr F.cl := fun e n z => by
    obtain ⟨x, ob, e'⟩ := C.all _ z
    rw [e] at e'
    exact n _ _ (Option.some.inj e')
  have rn : ∀ b, H b = none → remC F.cl H b = none := fun b e => by
    by_cases hb : b ∈ adr F.cl
    · exact rem_in hb
    · rw [rem_out hb]; exact e
  have e1 : Env0 X.prog X.w X.K X.mg X.base X.A X.stack s (remC F.cl H) := ⟨e0.frames, e0.mod, fun b o e => ⟨(e0.bs b o e).1, rn b (e0.bs b o e).2⟩, e0.bsz, e0.funs, fun b hb => rn b (e0.frf b hb), hok_rem e0.hok C.all, e0.bare⟩
  have nf : ∀ b ∈ adr F.cl, b ∉ frs X.stack := fun b hb z => by
    obtain ⟨x, o, e'⟩ := C.all b hb
    rw [e0.frf b z] at e'
    cases e'
  refine wpAny_call (codeAny_mono (Fn.run X.A X.stack s (remC F.cl H) us vs ws _ C8.E0 (hr.mono hk) e1 (by rw [rem_out (out hf (fun _ _ z => by unfold FnO at z; cases z))]; exact hf) (by rw [rem_out (out hc (fun _ _ z => by unfold CodeO at z; cases z))]; exact hc) (C.at e0.hok) r q) fun r s' hq => ?_)
  cases r with
  | error e => exact False.elim hq
  | ok fl =>
    cases fl with
    | ret u => exact I.after (ce_back e0.hok C.all nf hq)
    | next => exact False.elim hq
    | brk => exact False.elim hq
    | cont => exact False.elim hq
/-- a closure's promise, its cells put out of sight for the call -/
def CloC (sp : List (Option V) → Sp) (ws : List (Option V)) (vs : List V) (F : NF) (H : Hp) (Q : VK) : Prop := sp ws vs (remC F.cl H) (fun v H2 => (∀ b ∈ adr F.cl, H2 b = none) → Q v (backC F.cl H H2)) C8.E0
/-- f(..), f a name that holds a closure made elsewhere -/
def tCallP (X : Cx) (j : Nat) (i : Nat) (t : TA) : TE := fun σ H Q => ∃ (f : Addr) (F : NF) (ps fr : List Str) (ws : List (Option V)) (sp : List (Option V) → Sp) (k : Nat), σ[i]? = some (some (.ref f)) ∧ H f = some (FnO f F) ∧ k ≤ j ∧ NOk X.prog X.w X.K X.mg X.base CX0 k f F ps fr sp ∧
  t σ H fun vs H1 => H1 f = some (FnO f F) ∧ H1 F.c = some (CodeO F.c F.qual) ∧ Cel F fr ws H1 ∧ CloC sp ws vs F H1 Q
theorem pe_callP {i : Nat} {x : Str} {t : TA} {e : Expr} {es : List Expr} {p pos : Pos} (hr : Room j X.A) (hN : X.N[i]? = some x) (hv : Vis X.env.scope x) (ha : PA X (e :: es) t)
    (hd : (x == ("__debug__" : Str)) = false := by decide) (hcd : (x == ("__classdict__" : Str)) = false := by decide)
    (he : starEach (e :: es) X.env = (false, eval e X.env) :: starEach es X.env := by rfl) (hpl : (backTo pos (starEach es X.env)).any (·.1) = false := by rfl) :
    PE X (.Call (.Name x p) (e :: es) [] pos) (tCallP X j i t) := by
  refine ⟨fun pins s σ H Q I h => ?_⟩
  obtain ⟨f, F, ps, fr, ws, sp, k, hs, hf, hk, Fn, ht⟩ := h
  refine wpAny_Call_Name_kw (thn ((pe_var (pos := p) hN hv hd hcd).run pins s σ H (fun v H1 => v = .ref f ∧ H1 = H) I ⟨.ref f, hs, rfl, rfl⟩) fun u s1 ⟨v, H1, I1, r1, q1⟩ => ?_)
  obtain ⟨ev, eH⟩ := q1
  subst ev
  rw [eH] at I1
  obtain rfl : u = Value.ref f := r1
  refine PySem.W.callWith_F (first := []) (fnAt_of I1 hf) (thn (ha.run pos pins s1 σ H _ I1 ht) fun us s2 ⟨vs, H2, I2, r, h1, h2, C, q⟩ => ⟨fnAt_of I2 h1, ?_⟩) he hpl
  show wpAny _ _ (call (.ref f) us) _ _ _
  exact run_clo Fn hr hk I2 h1 h2 C r q
end
end Clo
namespace Clo
open PySem PySem.Spec PyProof.Rows L2 LamX NdefX
section
variable {P : Program} {w : World} {H : Hp} {s s' : Shared} {cl : List (Str × Addr)} {outer : List Env} {Q : VK} {u : Value} {g : Addr → V} {os : Addr → Obj}
theorem hok_add (x : HOk P w H s.heap) (n : ∀ b ∈ adr cl, H b = none) (c : ∀ b ∈ adr cl, s.heap.get? b = some (os b) ∧ ∃ u, RelV (g b) u ∧ (os b).data = .cell (some u)) : HOk P w (addC cl g os H) s.heap := fun b o e => by
  by_cases hb : b ∈ adr cl
  · rw [add_in hb] at e
    obtain rfl := Option.some.inj e
    obtain ⟨e1, u, r, d⟩ := c b hb
    exact celO_ok e1 r d
  · rw [add_out hb] at e
    have hn : ∀ c, (∃ z, H c = some z) → c ∉ adr cl := fun c ⟨z, hz⟩ hcl => by rw [n c hcl] at hz; cases hz
    exact (x b o e).stay (fun _ _ _ q => q) (fun c q => by rw [add_out (hn c ⟨_, q⟩)]; exact q) fun c xs q => by rw [add_out (hn c ⟨_, q⟩)]; exact q
/-- behind a call for which the cells were made known -/
theorem ce_rem (n : ∀ b ∈ adr cl, H b = none) (c : ∀ b ∈ adr cl, s.heap.get? b = some (os b)) (nf : ∀ b ∈ adr cl, b ∉ frs outer) (h : CE outer P w (addC cl g os H) s (fun v H2 => Q v (remC cl H2)) u s') : CE outer P w H s Q u s' := by
  obtain ⟨v, H2, os', bare, un, ok, r, q⟩ := h
  have frz : ∀ b ∈ adr cl, H2 b = some (.frz (os b) (CelO b (g b))) := fun b hb => un.frzs b _ _ (add_in hb)
  refine ⟨v, remC cl H2, os', bare, ⟨fun b o e hn hf hx => ?_, fun b o e hn hf hx => ?_, fun b o e hn hx => ?_, fun b o e hx => un.there b o e hx, fun b xs e => ?_, fun b o x e => ?_, fun b ps e => ?_⟩, hok_rem ok fun b hb => ⟨g b, os b, frz b hb⟩, r, q⟩
  · by_cases hb : b ∈ adr cl
    · rw [c b hb] at e
      obtain rfl := Option.some.inj e
      exact (ok b _ (frz b hb)).1
    · exact un.keep b o e (by rw [add_out hb]; exact hn) hf hx
  · have hb : b ∉ adr cl := fun z => nf b z hf
    exact un.slot b o e (by rw [add_out hb]; exact hn) hf hx
  · by_cases hb : b ∈ adr cl
    · exact rem_in hb
    · rw [rem_out hb]
      exact un.free b o e (by rw [add_out hb]; exact hn) hx
  · have hb : b ∉ adr cl := fun z => by rw [n b z] at e; cases e
    rw [rem_out hb]
    exact un.tups b xs (by rw [add_out hb]; exact e)
  · have hb : b ∉ adr cl := fun z => by rw [n b z] at e; cases e
    rw [rem_out hb]
    exact un.frzs b o x (by rw [add_out hb]; exact e)
  · have hb : b ∉ adr cl := fun z => by rw [n b z] at e; cases e
    rw [rem_out hb]
    exact un.tbls b ps (by rw [add_out hb]; exact e)
end
section
variable {X : Cx} {sp : Sp} {pins : List (Addr × Obj)} {σ : L2.St} {H : Hp} {s : Shared} {Q : VK} {us : List Value} {vs : List V} {cl : List (Str × Addr)}
/-- the cells that the running def made and that its closures caught -/
structure Own (X : Cx) (cl : List (Str × Addr)) : Prop where
  sub : ∀ p ∈ cl, X.env.cells.lookup p.1 = some p.2
  kin : ∀ p ∈ cl, X.env.scope.names.lookup p.1 = some .cell
  fn : ∀ p ∈ cl, X.fn p.1 = true
theorem Own.made {X : Cx} {scope : Scope} (ok : X.Ok) (hfree : ∀ y ∈ scope.names, y.2 = .free → X.env.scope.names.lookup y.1 = some .cell ∧ X.fn y.1 = true) : Own X (cloFrom X.env.cells scope.names []) := by
  have key : ∀ p ∈ cloFrom X.env.cells scope.names [], X.env.cells.lookup p.1 = some p.2 ∧ X.env.scope.names.lookup p.1 = some .cell ∧ X.fn p.1 = true := fun p hp => by
    rcases cloFrom_mem (n := p.1) (c := p.2) hp with z | ⟨z, e⟩
    · cases z
    · obtain ⟨h1, h2⟩ := hfree _ z rfl
      obtain ⟨c, hc⟩ := ok.has p.1 (.inl h1)
      refine ⟨?_, h1, h2⟩
      rw [e, hc]; rfl
  exact ⟨fun p hp => (key p hp).1, fun p hp => (key p hp).2.1, fun p hp => (key p hp).2.2⟩
theorem Own.app {X : Cx} {a b : List (Str × Addr)} (h : Own X a) (k : Own X b) : Own X (a ++ b) :=
  ⟨fun p hp => (List.mem_append.mp hp).elim (h.sub p) (k.sub p), fun p hp => (List.mem_append.mp hp).elim (h.kin p) (k.kin p), fun p hp => (List.mem_append.mp hp).elim (h.fn p) (k.fn p)⟩
theorem run_add {x : Str} {f : Addr} {fd : FuncData} {ps : List Str} {ds : List Value} {k : Nat} (O : Own X cl) (F : FnOk X.prog X.w X.K X.mg X.base CX0 k f fd ps sp) (hr : Room k X.A) (hb : L2.Binds X.K fd ps []) (I : Inv X pins σ H s) (r : Vals vs us)
    (gn : Str → V) (hg : ∀ p ∈ cl, ∃ j : Nat, X.N[j]? = some p.1 ∧ σ[j]? = some (some (gn p.1)))
    (h : ∀ (g : Addr → V) (os : Addr → Obj), (∀ p ∈ cl, ∀ p' ∈ cl, p.2 = p'.2 → p.1 = p'.1) → (∀ p ∈ cl, g p.2 = gn p.1) → (∀ b ∈ adr cl, H b = none) → sp vs (addC cl g os H) (fun v H2 => Q v (remC cl H2)) C8.E0) : wpAny (model X.prog X.w) X.A (call (.ref f) us) (EP X pins σ Q) X.xe s := by
  have fr := I.freeC
  have nA : ∀ b ∈ adr cl, H b = none := fun b hb => by
    obtain ⟨p, hp, rfl⟩ := List.mem_map.mp hb
    exact fr p.1 p.2 (O.sub p hp)
  have lo : ∀ b ∈ adr cl, X.s_0.heap.objs.size ≤ b := fun b hb => by
    obtain ⟨p, hp, rfl⟩ := List.mem_map.mp hb
    exact I.ok.cab p.1 p.2 (O.fn p hp) (O.sub p hp)
  let g : Addr → V := fun c => gn ((cl.find? fun p => p.2 == c).map (·.1) |>.getD default)
  have hgn : ∀ p ∈ cl, g p.2 = gn p.1 := fun p hp => by
    show gn _ = gn _
    cases q : cl.find? fun z => z.2 == p.2 with
    | none => exact absurd (List.find?_eq_none.mp q p hp) (by simp)
    | some z =>
      have h1 := List.mem_of_find?_eq_some q
      have h2 : z.2 = p.2 := by have := List.find?_some q; exact eq_of_beq this
      have h3 : z.1 = p.1 := I.ok.inj z.1 p.1 p.2 (by rw [← h2]; exact O.sub z h1) (O.sub p hp)
      show gn z.1 = gn p.1
      rw [h3]
  let os : Addr → Obj := fun b => (s.heap.get? b).getD { cls := .none, data := .fields #[] }
  obtain ⟨m, hns, hl⟩ := id I.loc
  have cell : ∀ b ∈ adr cl, s.heap.get? b = some (os b) ∧ ∃ u, RelV (g b) u ∧ (os b).data = .cell (some u) := fun b hb => by
    obtain ⟨p, hp, rfl⟩ := List.mem_map.mp hb
    obtain ⟨j, h1, h2⟩ := hg p hp
    obtain ⟨u, ru, l⟩ := hl j p.1 _ h1 h2 (.inr (.inl (O.kin p hp)))
    rcases l with ⟨z, _⟩ | ⟨_, c, hc, o, ho, hd⟩
    · have z : X.env.scope.names.lookup p.1 = some .local := z
      rw [O.kin p hp] at z
      cases z
    · rw [O.sub p hp] at hc
      cases hc
      have e : os p.2 = o := by show (s.heap.get? p.2).getD _ = o; rw [ho]; rfl
      rw [e, hgn p hp]
      exact ⟨ho, u, ru, hd⟩
  have e0 := I.env0
  have rn : ∀ b, b ∉ adr cl → H b = none → addC cl g os H b = none := fun b hb e => by rw [add_out hb]; exact e
  have nf : ∀ b ∈ adr cl, b ∉ frs X.stack := fun b hb z => by
    have nfs : b ∉ X.fs := fun y => by
      obtain ⟨_, o, e, _⟩ := I.ok.funs.mem y
      exact absurd (Nat.lt_of_lt_of_le (Heap.lt_size e) (lo b hb)) (Nat.lt_irrefl _)
    rcases I.ok.stk with e | ⟨e, e2⟩
    · rw [e] at z
      exact nfs z
    · rw [e] at z
      have z : b ∈ List.filterMap (·.frame) (X.env :: X.outer) := z
      rw [List.filterMap_cons, e2] at z
      rcases List.mem_cons.mp z with z | z
      · obtain ⟨od, es, ep, eo, ex, ed, _⟩ := hns
        obtain ⟨e1, u, _, d⟩ := cell b hb
        subst z
        rw [eo] at e1
        rw [← Option.some.inj e1, ex] at d
        cases d
      · exact nfs z
  have e1 : Env0 X.prog X.w X.K X.mg X.base X.A X.stack s (addC cl g os H) := ⟨e0.frames, e0.mod, fun b o e => ⟨(e0.bs b o e).1, rn b (fun z => by
      exact absurd (Nat.lt_of_lt_of_le (Heap.lt_size e) (Nat.le_trans I.ok.bsz (lo b z))) (Nat.lt_irrefl _)) (e0.bs b o e).2⟩, e0.bsz, e0.funs, fun b hb => rn b (fun z => nf b z hb) (e0.frf b hb), hok_add e0.hok nA cell, e0.bare⟩
  have q := h g os (fun p hp p' hp' e => I.ok.inj p.1 p'.1 p.2 (O.sub p hp) (by rw [e]; exact O.sub p' hp')) hgn nA
  have hl2 : us.length = ps.length := by rw [← r.length]; exact F.len _ _ _ _ q
  have hb' : BindsTo s fd ⟨us, []⟩ (ps.zip us) := by
    have z := hb s us I.kIn (by rw [List.append_nil]; exact hl2)
    rw [List.append_nil] at z
    exact z
  refine wpAny_call (codeAny_mono (F.run X.A X.stack s (addC cl g os H) ⟨us, []⟩ us vs _ C8.E0 hr e1 hb' r q) fun r s' hq => ?_)
  cases r with
  | error e => exact False.elim hq
  | ok fl =>
    cases fl with
    | ret u => exact I.after (ce_rem nA (fun b hb => (cell b hb).1) nf hq)
    | next => exact False.elim hq
    | brk => exact False.elim hq
    | cont => exact False.elim hq
/-- f(..), closures of this def among the arguments: their cells are known to f -/
def tCallAdd (X : Cx) (cl : List (Str × Addr)) (sp : Sp) (t : TA) : TE := fun σ H Q => t σ H fun vs H1 => ∃ gn : Str → V, (∀ p ∈ cl, ∃ j : Nat, X.N[j]? = some p.1 ∧ σ[j]? = some (some (gn p.1))) ∧
  ∀ (g : Addr → V) (os : Addr → Obj), (∀ p ∈ cl, ∀ p' ∈ cl, p.2 = p'.2 → p.1 = p'.1) → (∀ p ∈ cl, g p.2 = gn p.1) → (∀ b ∈ adr cl, H1 b = none) → sp vs (addC cl g os H1) (fun v H2 => Q v (remC cl H2)) C8.E0
theorem pe_cAdd {x : Str} {k j : Nat} {p pos : Pos} {e : Expr} {es : List Expr} {t : TA} (O : X.Ok → Own X cl) (c : C8.Cal X.prog X.w X.K X.mg X.base k x sp []) (hr : Room j X.A) (hk : k ≤ j) (hg : Gl X x) (ha : PA X (e :: es) t)
    (hdb : (x == ("__debug__" : Str)) = false := by decide) (he : starEach (e :: es) X.env = (false, eval e X.env) :: starEach es X.env := by rfl) (hpl : (backTo pos (starEach es X.env)).any (·.1) = false := by rfl) :
    PE X (.Call (.Name x p) (e :: es) [] pos) (tCallAdd X cl sp t) := by
  obtain ⟨f, fd, ps, ds, F, hm, kp, b, d⟩ := c.ex
  have ed : ds = [] := by cases d; rfl
  subst ed
  refine ⟨fun pins s σ H Q I h => ?_⟩
  refine wpAny_Call_Name_kw (ld_glob I hg hm ?_ hdb)
  refine PySem.W.callWith_K (h₀ := X.base) I.ok.mod.kin kp (thn (ha.run pos pins s σ H _ I h) fun us s1 ⟨vs, H1, I1, r, gn, hgn, q⟩ => ⟨I1.kIn, ?_⟩) he hpl
  exact run_add (x := x) (ds := []) (O I1.ok) F (hr.mono hk) b I1 r gn hgn q
end
end Clo
namespace Clo
open PySem PySem.Spec PyProof.Rows L2 LamX NdefX
/-! ### defs whose code object is told -/
structure FunC (K : PySem.W.Frag) (x qual : Str) (st : Stmt) (f : Addr) (fd : FuncData) (c : Addr) : Prop where
  ex : ∃ (oc : Value) (od : Option Addr) (kV doc pm : Value) (an : Option Addr) (ct : Value) (osl : Array (Option Value)),
    fd = PySem.W.fnOf x qual (defArgs st) (defBody st) (defScope st) .none kV doc pm an (.ref c) ct ∧ K.lookup f = some ⟨oc, od, .func fd, osl⟩ ∧ PySem.W.codeIn K (.ref c) qual = true
  kp : PySem.W.keepIn K (.ref f) = true
structure HasC (K : PySem.W.Frag) (mg : Str → Option Value) (x : Str) (st : Stmt) (ps : List Str) (c : Addr) : Prop where
  ex : ∃ (f : Addr) (fd : FuncData), FunC K x x st f fd c ∧ mg x = some (.ref f) ∧ L2.Binds K fd ps []
theorem func_mk {K : PySem.W.Frag} {x qual : Str} {st : Stmt} {f c : Addr} {oc : Value} {od an : Option Addr} {osl : Array (Option Value)} {kV doc pm ct : Value} (l : K.lookup f = some ⟨oc, od, .func (PySem.W.fnOf x qual (defArgs st) (defBody st) (defScope st) .none kV doc pm an (.ref c) ct), osl⟩)
    (cc : PySem.W.codeIn K (.ref c) qual = true) (k : PySem.W.keepIn K (.ref f) = true) : FunC K x qual st f (PySem.W.fnOf x qual (defArgs st) (defBody st) (defScope st) .none kV doc pm an (.ref c) ct) c := ⟨⟨oc, od, kV, doc, pm, an, ct, osl, rfl, l, cc⟩, k⟩
section
variable {P : Program} {w : World} {K : PySem.W.Frag} {mg : Str → Option Value} {base : Heap}
theorem FunC.ok {x qual : Str} {st : Stmt} {f c : Addr} {fd : FuncData} {N ps : List Str} {k : Nat} {sp : Sp} (F : FunC K x qual st f fd c) (S : FnScope N ps (defScope st)) (len : ∀ vs H Q E, sp vs H Q E → vs.length = ps.length)
    (hbody : ∀ (A : Around) (outer : List Env) (s : Shared) (H : Hp) (vs : List V) (Q : VK) (E : XK), Room k (A.deeper (envOfC qual (defScope st) s.heap.objs.size f (.ref c))) → sp vs H Q E →
      ∃ t, PSs (cxOf CX0 P w K mg base N qual (defScope st) f (.ref c) A outer s H E).nox (defBody st) t ∧ t { nx := fun _ H' => Q .non H', rt := Q } (start N vs) H) : FnOk P w K mg base CX0 (k + 1) f fd ps sp := by
  obtain ⟨oc, od, kV, doc, pm, an, ct, osl, rfl, lk, hcd⟩ := F.ex
  refine fn_of lk hcd S len fun A outer s H vs Q E hr hsp => ?_
  obtain ⟨t, h, q⟩ := hbody A outer s H vs Q E hr hsp
  exact ⟨t, h.nox, q⟩
theorem FunC.okX {x qual : Str} {st : Stmt} {f c : Addr} {fd : FuncData} {N ps : List Str} {k : Nat} {sp : Sp} (F : FunC K x qual st f fd c) (S : FnScope N ps (defScope st)) (len : ∀ vs H Q E, sp vs H Q E → vs.length = ps.length)
    (hbody : ∀ (A : Around) (outer : List Env) (s : Shared) (H : Hp) (vs : List V) (Q : VK) (E : XK), Room k (A.deeper (envOfC qual (defScope st) s.heap.objs.size f (.ref c))) → sp vs H Q E →
      ∃ t, PSs (cxOf (L2.CX P w) P w K mg base N qual (defScope st) f (.ref c) A outer s H E) (defBody st) t ∧ t { nx := fun _ H' => Q .non H', rt := Q } (start N vs) H) : FnOk P w K mg base (L2.CX P w) (k + 1) f fd ps sp := by
  obtain ⟨oc, od, kV, doc, pm, an, ct, osl, rfl, lk, hcd⟩ := F.ex
  exact fn_of lk hcd S len fun A outer s H vs Q E hr hsp => hbody A outer s H vs Q E hr hsp
end
/-- where the code object c keeps the code objects of the defs in its def -/
def codeTab (K : PySem.W.Frag) (c : Addr) : Option Addr := match K.lookup c with
  | some ⟨.type "code", _, .fields vs, _⟩ => (match (vs[11]? : Option Value) with
    | some (.ref P) => some P
    | _ => none)
  | _ => none
/-! ### closures made -/
theorem clo_free {N ps fr : List Str} {sc : Scope} (S : CScope N ps fr sc) {cells : List (Str × Addr)} {y : Str} {c : Addr} (h : (cloFrom cells sc.names []).lookup y = some c) : sc.names.lookup y = some .free := by
  rcases cloFrom_mem (PySem.mem_of_lookup h) with z | ⟨z, _⟩
  · cases z
  · exact S.uq _ z
section
variable {X : Cx}
theorem Own.made2 {scope sc : Scope} (hs : X.env.scope = sc) (hfn : ∀ x, X.fn x = true) (h : (scope.names.all fun y => !decide (y.2 = .free) || decide (sc.names.lookup y.1 = some .cell)) = true) (ok : X.Ok) : Own X (cloFrom X.env.cells scope.names []) :=
  Own.made ok fun y hy e => by
    have := List.all_eq_true.mp h y hy
    rw [hs]
    refine ⟨?_, hfn _⟩
    rw [e] at this
    simpa using this
/-- def name(..) in a def -/
theorem ps_nd {T : List NTab} {nm : Nat → Nat → Str} {c P : Addr} {name : Str} {st : Stmt} {sc : Scope} {pos : Pos} {i : Nat} (TB : TabB X.base X.mg c P) (hst : st = .FunctionDef name (C8.fnArgs st) (C8.fnBody st) [] none [] (C8.fnScope st) none name pos) (hcode : X.env.code = .ref c) (hm : (P, nm) ∈ T)
    (hn : nm pos.line pos.col = X.env.qual ++ name) (hu : ∀ p ∈ T, p.1 = P → p.2 = nm) (hs : X.env.scope = sc) (hfree : ((C8.fnScope st).names.all fun y => !decide (y.2 = .free) || decide (sc.names.lookup y.1 = some .cell)) = true) (hd0 : (C8.fnArgs st).defaults = []) (hk0 : (C8.fnArgs st).kw_defaults = [])
    (ha : annTrees (C8.fnArgs st) none X.env = []) (hN : X.N.Nodup) (hi : X.N[i]? = some name) (hx : Loc X.env.scope name) (hf : X.fn name = true ∨ X.env.scope.names.lookup name = some .local) :
    PS X st (tNdefM T i (NF.of st name (X.env.qual ++ name) (cloFrom X.env.cells (C8.fnScope st).names []))) :=
  ps_ndefMS hst TB hcode hm hn hu (fun y hy e => by
    have := List.all_eq_true.mp hfree y hy
    rw [hs]
    rw [e] at this
    exact .inl (by simpa using this)) hd0 hk0 ha hN hi hx hf
end
/-! ### what is known of the cells of a closure -/
theorem cel_of {F : NF} {fr : List Str} {cl : List (Str × Addr)} {g : Addr → V} {os : Addr → Obj} {gn : Str → V} {H : Hp} {cells : List (Str × Addr)} {names : List (Str × NameKind)} (hF : F.cl = cloFrom cells names []) (hfr : ∀ y ∈ fr, (y, NameKind.free) ∈ names) (sub : ∀ p ∈ F.cl, p ∈ cl)
    (inj : ∀ p ∈ cl, ∀ p' ∈ cl, p.2 = p'.2 → p.1 = p'.1) (hg : ∀ p ∈ cl, g p.2 = gn p.1) : Cel F fr (fr.map fun y => some (gn y)) (addC cl g os H) := by
  have inn : ∀ {y : Str} {c : Addr}, F.cl.lookup y = some c → (y, c) ∈ cl := fun e => sub _ (PySem.mem_of_lookup e)
  have cel : ∀ {y : Str} {c : Addr}, (y, c) ∈ cl → CelH (addC cl g os H) c (gn y) := fun {y c} h => by
    refine ⟨os c, ?_⟩
    rw [add_in (List.mem_map.mpr ⟨(y, c), h, rfl⟩), hg (y, c) h]
  refine ⟨List.length_map _, fun b hb => ?_, fun x y c h1 h2 => inj (x, c) (inn h1) (y, c) (inn h2) rfl, fun i y e => ?_⟩
  · obtain ⟨p, hp, rfl⟩ := List.mem_map.mp hb
    exact ⟨_, cel (y := p.1) (sub p hp)⟩
  · have hm := cloFrom_has (cells := cells) (acc := []) (hfr y (List.mem_of_getElem? e))
    rw [← hF] at hm
    obtain ⟨c, hc⟩ := mem_lookup hm
    refine ⟨c, hc, fun v ev => ?_⟩
    rw [List.getElem?_map, e] at ev
    have ev : some (gn y) = some v := Option.some.inj ev
    rw [← Option.some.inj ev]
    exact cel (inn hc)
theorem Cel.ext {F : NF} {fr : List Str} {ws : List (Option V)} {H H' : Hp} (C : Cel F fr ws H) (s : ∀ b o, H b = some o → H' b = some o) : Cel F fr ws H' :=
  ⟨C.len, fun b hb => let ⟨v, o, e⟩ := C.all b hb; ⟨v, o, s _ _ e⟩, C.inj, fun i y e => let ⟨c, h1, h2⟩ := C.has i y e; ⟨c, h1, fun v ev => let ⟨o, e⟩ := h2 v ev; ⟨o, s _ _ e⟩⟩⟩
/-- the heap without tables -/
def nt (H : Hp) : Hp := fun b => match H b with
  | some (.tbl _) => none
  | x => x
theorem nt_of {H : Hp} {b : Addr} {o : HO} (h : nt H b = some o) : H b = some o ∧ ∀ ps, o ≠ .tbl ps := by
  unfold nt at h
  split at h
  · cases h
  · rename_i x hx
    refine ⟨h, fun ps e => ?_⟩
    rw [e] at h
    exact hx ps h
theorem nt_get {H : Hp} {b : Addr} {o : HO} (h : H b = some o) (n : ∀ ps, o ≠ .tbl ps) : nt H b = some o := by
  unfold nt
  rw [h]
  cases o with
  | tbl ps => exact absurd rfl (n ps)
  | _ => rfl
theorem rem_keep {cl : List (Str × Addr)} {H2 : Hp} (hc : ∀ b ∈ adr cl, ∃ o x, H2 b = some (.frz o x)) {b : Addr} {o : HO} (h : H2 b = some o) (n : ∀ ob x, o ≠ .frz ob x) : remC cl H2 b = some o := by
  rw [rem_out fun z => ?_]
  · exact h
  · obtain ⟨ob, x, e⟩ := hc b z
    rw [h] at e
    exact n _ _ (Option.some.inj e)
theorem add_frz {cl : List (Str × Addr)} {g : Addr → V} {os : Addr → Obj} {H1 H2 : Hp} (s : ∀ b o, addC cl g os H1 b = some o → H2 b = some o) : ∀ b ∈ adr cl, ∃ o x, H2 b = some (.frz o x) := fun b hb => ⟨_, _, s _ _ (add_in hb)⟩
theorem add_keep {cl : List (Str × Addr)} {g : Addr → V} {os : Addr → Obj} {H1 : Hp} (n : ∀ b ∈ adr cl, H1 b = none) : ∀ b o, H1 b = some o → addC cl g os H1 b = some o := fun b o e => by
  rw [add_out fun z => ?_]
  · exact e
  · rw [n b z] at e; cases e
theorem add_same {cl : List (Str × Addr)} {g : Addr → V} {os : Addr → Obj} {H1 H2 : Hp} (n : ∀ b ∈ adr cl, H1 b = none) (s : ∀ b o, addC cl g os H1 b = some o → H2 b = some o) : ∀ b o, H1 b = some o → remC cl H2 b = some o := fun b o e => by
  rw [rem_out fun z => ?_]
  · exact s _ _ (add_keep n b o e)
  · rw [n b z] at e; cases e
theorem Cel.keep {F : NF} {fr : List Str} {ws : List (Option V)} {H : Hp} (C : Cel F fr ws H) {b : Addr} {o : HO} (h : H b = some o) (n : ∀ ob x, o ≠ .frz ob x) : remC F.cl H b = some o := by
  rw [rem_out fun z => ?_]
  · exact h
  · obtain ⟨v, ob, e⟩ := C.all b z
    rw [h] at e
    exact n _ _ (Option.some.inj e)
theorem Cel.back {F : NF} {fr : List Str} {ws : List (Option V)} {H H2 : Hp} (C : Cel F fr ws H) (s : ∀ b o, remC F.cl H b = some o → H2 b = some o) : ∀ b o, H b = some o → backC F.cl H H2 b = some o := fun b o e => by
  by_cases z : b ∈ adr F.cl
  · rw [back_in z]; exact e
  · rw [back_out z]; exact s _ _ (by rw [rem_out z]; exact e)
theorem back_new {cl : List (Str × Addr)} {H H2 : Hp} (n : ∀ b ∈ adr cl, H2 b = none) {b : Addr} {o : HO} (h : H2 b = some o) : backC cl H H2 b = some o := by
  rw [back_out fun z => ?_]
  · exact h
  · rw [n b z] at h; cases h
theorem ExtN.nt {H H' : Hp} (e : ExtN H H') : ∀ b o, Clo.nt H b = some o → H' b = some o := fun b o h => e b o (nt_of h).1 (nt_of h).2
end Clo
namespace Bx
open PySem PySem.Spec PyProof.Rows L2
/-! a dict comprehension whose keys are tuples -/
/-- one entry more, the key an int, a text or a tuple of such -/
theorem put_in {X : Cx} {pins : List (Addr × Obj)} {σ : L2.St} {H H' : Hp} {s : Shared} {E : Value → Shared → Prop} {D : Addr} {y z : V} {u r : Value} {Q : Unit → Shared → Prop} (hu : X.A.units + 1 < cLine) (I : Inv X pins σ H s) (g : DPut H D y z H') (ry : RelV y u) (rz : RelV z r)
    (h : ∀ s', Inv X pins σ H' s' → Q () s') : wpAny (model X.prog X.w) X.A (dictSet D u r) Q E s := by
  rcases g with ⟨kvs, k, e, rfl, l, rfl⟩ | ⟨kvs, k, b, e, rfl, eb, l, rfl⟩
  · exact d_dictSet I e l ry rz h
  · cases (show u = Value.ref b from ry)
    obtain ⟨zl, hsm, xs, rel, DO⟩ := dt_of I.hok e
    have hl : (putK kvs k z).length ≤ sizeLine := by have := length_putK kvs k z; omega
    refine wpAny_dictSet_heap (knd := tupleKind (mixKind X.prog X.w)) (Nat.lt_of_le_of_lt (Nat.le_succ _) hu) (key_of I.hok eb) DO (fun h' DO' sb => ?_) (by rw [← Paired.length rel]; exact zl)
    obtain ⟨q, es, ep, hq, h2, h3, h4, _, h5⟩ := DO'
    refine h _ ?_
    refine d_write I (by rw [e]; exact True.intro) sb ⟨q, hq⟩ ⟨hl, hsm, _, (rel.put k eb rz).keeps fun c ys ec => ?_, q, es, ep, hq, h2, h3, h4, h5⟩
    rw [upd_ne (ne_of ec e (fun z => nomatch z))]
    exact ec
/-- {k: v for ..}: the new dict D, an entry a turn -/
def tDcT (wi : TI) (g : TG) (tt : TT) (tk tv : TE) (vs : List Nat) : TE := fun σ H Q => wi σ H fun J H1 => ∀ D, H1 D = none → ∃ W : Nat → Nat → Hp → Prop, (∃ m, W 0 m (upd H1 D (.dT []))) ∧ ∀ i m H2, W i m H2 →
  (J.stop i H2 ∧ Q (.ref D) H2) ∨ (J.go i H2 ∧ ∃ Nx : Hp → Prop, (∀ H', Nx H' → ∃ m', m' < m ∧ W (i + 1) m' H') ∧ ∀ x H3, J.yld i H2 x H3 → g x (wipe σ vs) H3 fun σ2 H4 => wipe σ2 vs = wipe σ vs ∧ tt σ2 H4 fun b H5 =>
    if b = true then tk σ2 H5 fun y H6 => tv σ2 H6 fun z H7 => ∃ H8, DPut H7 D y z H8 ∧ Nx H8 else Nx H5)
theorem pe_dcT {X : Cx} {kx vx tg iter : Expr} {ifs : List Expr} {scope : Scope} {own : List (Str × Nat)} {pos : Pos} {wi : TI} {g : TG} {tt : TT} {tk tv : TE} (hu : X.A.units + 1 < cLine) (hc : X.calm = true) (hN : X.N.Nodup) (hi : PI X tg iter wi) (ok : BlkOk X.N X.env.scope scope own)
    (hg : ∀ (s : Shared) (H : Hp) (C : Addr) (cl : List (Str × Addr)) (fp : List Addr), PG (X.blk s H scope (compEnvC scope cl C X.env) fp) tg g) (ht : ∀ (s : Shared) (H : Hp) (C : Addr) (cl : List (Str × Addr)) (fp : List Addr), PTs (X.blk s H scope (compEnvC scope cl C X.env) fp) ifs tt)
    (hk : ∀ (s : Shared) (H : Hp) (C : Addr) (cl : List (Str × Addr)) (fp : List Addr), PE (X.blk s H scope (compEnvC scope cl C X.env) fp) kx tk)
    (he : ∀ (s : Shared) (H : Hp) (C : Addr) (cl : List (Str × Addr)) (fp : List Addr), PE (X.blk s H scope (compEnvC scope cl C X.env) fp) vx tv) (hs : ∀ x, foldedSetIterable iter X.env x = pure x := by intro _; rfl) :
    PE X (.DictComp kx vx [⟨tg, iter, ifs, 0⟩] scope pos) (tDcT wi g tt tk tv (own.map (·.2))) := by
  refine ⟨fun pins s σ H Q I h => ?_⟩
  rw [arm_eval_DictComp]
  refine wpAny_comprehension_free (use := none) rfl hs (closure_ok fun y hy e => (ok.free y hy e).elim (fun k => I.ok.has _ (.inl k)) (fun k => I.ok.has _ (.inr k))) ok.kind (fun y hy e => by rw [ok.uniq y hy, e]) (thn (hi.run pins s σ H _ I h) fun xv s1 hx => thn hx fun itv s2 h2 => ?_)
  obtain ⟨it, fp, tn, J, H2, rfl, I2, T, st2, f2, q⟩ := h2
  refine wpAny_newObj_type (newEnv_comp ?_)
  obtain ⟨D, hD⟩ : ∃ D, D = s2.heap.objs.size := ⟨_, rfl⟩
  rw [← hD]
  obtain ⟨W, ⟨m0, w0⟩, turn⟩ := q D (I2.hok.fresh (Nat.le_of_eq hD.symm))
  obtain ⟨H3, hH3⟩ : ∃ H3, H3 = upd H2 D (.dT []) := ⟨_, rfl⟩
  obtain ⟨s3, hs3⟩ : ∃ s3 : Shared, s3 = { s2 with heap := s2.heap.push { cls := .type "dict", data := .dict #[] } } := ⟨_, rfl⟩
  have hp3 : s3.heap = s2.heap.push { cls := .type "dict", data := .dict #[] } := by rw [hs3]
  have I3 : Inv X pins σ H3 s3 := by
    rw [hs3, hH3, hD]
    exact I2.laid (t' := s2.toks) (fun b o e => Heap.get?_push_of_some _ e) (Nat.le_refl _) (dt_empty s2.heap I2.big)
  have f3 : ∀ b ∈ fp, FpOk X pins H3 b ∧ b < s3.heap.objs.size := fun b hb => by
    obtain ⟨o, e, _⟩ := T.obj _ _ st2 b hb
    have lt := Heap.lt_size e
    refine ⟨⟨?_, (f2 b hb).2⟩, by rw [hp3, Heap.size_push]; exact Nat.lt_succ_of_lt lt⟩
    rw [hH3, upd_ne (by rw [hD]; exact Nat.ne_of_lt lt)]
    exact (f2 b hb).1
  have I4 := block_start I3 ok hN f3
  rw [← hH3] at w0
  have st4 : tn 0 (pushCells (s3.heap.push { cls := .type "dict", data := .dict #[] }) scope.names) :=
    T.keep _ _ _ st2 fun b _ o e => pushCells_keeps _ _ _ _ (Heap.get?_push_of_some _ (by rw [hp3]; exact Heap.get?_push_of_some _ e))
  have core : codeAny (model X.prog X.w) X.A (.compStart (.DictComp kx vx [⟨tg, iter, ifs, 0⟩] scope pos) 0 (.ref it) (.ref D) (compEnvC scope (cellsFrom (s3.heap.objs.size + 1) scope.names (cloFrom X.env.cells scope.names [])) s3.heap.objs.size X.env))
      (compPost (model X.prog X.w) X.A X.xe none (EP X pins σ Q) (.ref D) s3.heap.objs.size) { s3 with heap := pushCells (s3.heap.push { cls := .type "dict", data := .dict #[] }) scope.names } := by
    have pg := hg s3 H3 s3.heap.objs.size (cellsFrom (s3.heap.objs.size + 1) scope.names (cloFrom X.env.cells scope.names [])) fp
    have pt := ht s3 H3 s3.heap.objs.size (cellsFrom (s3.heap.objs.size + 1) scope.names (cloFrom X.env.cells scope.names [])) fp
    have pk := hk s3 H3 s3.heap.objs.size (cellsFrom (s3.heap.objs.size + 1) scope.names (cloFrom X.env.cells scope.names [])) fp
    have pe := he s3 H3 s3.heap.objs.size (cellsFrom (s3.heap.objs.size + 1) scope.names (cloFrom X.env.cells scope.names [])) fp
    have cL : (compEnvC scope (cellsFrom (s3.heap.objs.size + 1) scope.names (cloFrom X.env.cells scope.names [])) s3.heap.objs.size X.env).locals = s3.heap.objs.size := rfl
    generalize compEnvC scope (cellsFrom (s3.heap.objs.size + 1) scope.names (cloFrom X.env.cells scope.names [])) s3.heap.objs.size X.env = ce at I4 pg pt pk pe cL ⊢
    have lay : ∀ {σ' : L2.St} {H' : Hp} {s' : Shared}, Inv (X.blk s3 H3 scope ce fp) [] σ' H' s' → (∀ b ∈ fp, H' b = none) → ∀ b ∈ fp, FpOk (X.blk s3 H3 scope ce fp) [] H' b := fun I' n b hb => ⟨n b hb, (I'.ok.exf b hb).1, I'.ok.exfs b hb, .inl hb, fun x c e => (I'.ok.exf b hb).2 x c e, fun p hp => nomatch (show p ∈ ([] : List (Addr × Obj)) from hp)⟩
    have turns : codeAny (model X.prog X.w) X.A (.compLoop (.DictComp kx vx [⟨tg, iter, ifs, 0⟩] scope pos) 0 (.ref it) (.ref D) ce) (compPost (model X.prog X.w) X.A X.xe none (EP X pins σ Q) (.ref D) s3.heap.objs.size) { s3 with heap := pushCells (s3.heap.push { cls := .type "dict", data := .dict #[] }) scope.names } := by
      refine compLoop_anyD (fun n s' => ∃ i H', Inv (X.blk s3 H3 scope ce fp) [] (wipe σ (own.map (·.2))) H' s' ∧ tn i s'.heap ∧ (∀ b ∈ fp, H' b = none) ∧ W i n H') ?_ m0 ⟨0, H3, I4, st4, fun b hb => (f3 b hb).1.1, w0⟩
      rintro n s5 ⟨i, H5, I5, st5, n5, w5⟩
      rcases turn i n H5 w5 with ⟨stop, qq⟩ | ⟨go, Nx, hNx, step⟩
      · refine thnF (T.done (X.blk s3 H3 scope ce fp) rfl rfl rfl hc i [] s5 _ H5 (fun _ _ => False) I5 (lay I5 n5) st5 stop) fun r s6 ⟨hr, I6⟩ => ?_
        subst hr
        have I7 : Inv X pins σ H5 s6 := I3.call' (ch := fp) I6.os I6.base I6.hok I6.bare fun b hb => ⟨(f3 b hb).1.2.2.2.1, (f3 b hb).1.2.1, (f3 b hb).1.2.2.2.2.1, (f3 b hb).1.2.2.2.2.2⟩
        have nC : H5 s3.heap.objs.size = none := by
          have zz : H5 ce.locals = none := I6.free
          rwa [cL] at zz
        obtain ⟨mm, hn, _⟩ := I6.loc
        have hn : s6.heap.Ns ce.locals mm := hn
        rw [cL] at hn
        obtain ⟨f0, f1, f4, f5, f6, f7⟩ := I3.fpOk (Nat.le_refl _) nC
        exact ⟨mm, hn, fun h'' sb => ⟨.ref D, H5, I7.turned (t' := s6.toks) (fun b o hb e => (sb.2 b hb).trans e) f0 f1 f5 f6 f7, rfl, qq⟩⟩
      · refine thnF (T.item (X.blk s3 H3 scope ce fp) rfl rfl rfl hc i [] s5 _ H5 (fun _ _ => False) I5 (lay I5 n5) st5 go) fun r s6 ⟨u, hr, h6⟩ => ?_
        subst hr
        refine thnF h6 fun _ s7 ⟨x, H7, I7, r7, y7, st7, n7⟩ => ?_
        refine thnF (pg.run _ s7 _ H7 x u _ (I7.pinned (lay I7 n7) (T.obj _ _ st7)) r7 (step x H7 y7)) fun _ s8 ⟨σ8, H8, I8, hw8, q8⟩ => ?_
        refine thnF (pt.run _ s8 σ8 H8 _ I8 q8) fun b s9 ⟨H9, I9, q9⟩ => ?_
        have next : ∀ {s' : Shared} {H' : Hp}, Inv (X.blk s3 H3 scope ce fp) ([] ++ pinsAt fp s7.heap) σ8 H' s' → Nx H' → ∃ m, m < n ∧ ∃ i H', Inv (X.blk s3 H3 scope ce fp) [] (wipe σ (own.map (·.2))) H' s' ∧ tn i s'.heap ∧ (∀ b ∈ fp, H' b = none) ∧ W i m H' := fun {s' H'} I' nx => by
          obtain ⟨m', hm, w'⟩ := hNx H' nx
          have pin' : ∀ b ∈ fp, ∀ o, s7.heap.get? b = some o → s'.heap.get? b = some o ∧ H' b = none := fun b hb o e => (fun z => ⟨z.1, z.2.1⟩) (I'.pin (b, o) (List.mem_append_right _ (List.mem_append_right _ (mem_pinsAt hb e))))
          refine ⟨m', hm, i + 1, H', (I'.unpinned (pins := [])).weak (by rw [← hw8, wipe_length]) (fun j v e => ?_), T.keep _ _ _ st7 fun b hb o e => (pin' b hb o e).1, fun b hb => ?_, w'⟩
          · rw [← hw8] at e
            exact (wipe_some e).1
          · obtain ⟨o, e, _⟩ := T.obj _ _ st7 b hb
            exact (pin' b hb o e).2
        cases b with
        | false => exact next I9 (by rwa [if_neg Bool.false_ne_true] at q9)
        | true =>
          rw [if_pos rfl] at q9
          refine thnF (pk.run _ s9 σ8 H9 _ I9 q9) fun kv s10 ⟨yk, H10, I10, r10, q10⟩ => ?_
          refine thnF (pe.run _ s10 σ8 H10 _ I10 q10) fun vv s11 ⟨yv, H11, I11, r11, H12, g, nx⟩ => ?_
          exact put_in (X := X.blk s3 H3 scope ce fp) hu I11 g r10 r11 fun s12 I12 => next I12 nx
    exact codeAny_compStart_dict turns (T.self X.A 0 _ _ _ st4 turns)
  rw [hs3] at core
  exact core
end Bx
namespace Clo
open PySem PySem.Spec PyProof.Rows L2 LamX NdefX
/-- f(..) for a closure that a variable holds, told without the context -/
def tCallQ (P : Program) (w : World) (K : PySem.W.Frag) (mg : Str → Option Value) (base : Heap) (j : Nat) (i : Nat) (t : TA) : TE := fun σ H Q => ∃ (f : Addr) (F : NF) (ps fr : List Str) (ws : List (Option V)) (sp : List (Option V) → Sp) (k : Nat), σ[i]? = some (some (.ref f)) ∧ H f = some (FnO f F) ∧ k ≤ j ∧ NOk P w K mg base CX0 k f F ps fr sp ∧
  t σ H fun vs H1 => H1 f = some (FnO f F) ∧ H1 F.c = some (CodeO F.c F.qual) ∧ Cel F fr ws H1 ∧ CloC sp ws vs F H1 Q
theorem pe_callQ {X : Cx} {P : Program} {w : World} {K : PySem.W.Frag} {mg : Str → Option Value} {base : Heap} {i j : Nat} {x : Str} {t : TA} {e : Expr} {es : List Expr} {p pos : Pos} (hP : X.prog = P) (hw : X.w = w) (hK : X.K = K) (hm : X.mg = mg) (hb : X.base = base) (hr : Room j X.A) (hN : X.N[i]? = some x) (hv : Vis X.env.scope x) (ha : PA X (e :: es) t)
    (hd : (x == ("__debug__" : Str)) = false := by decide) (hcd : (x == ("__classdict__" : Str)) = false := by decide)
    (he : starEach (e :: es) X.env = (false, eval e X.env) :: starEach es X.env := by rfl) (hpl : (backTo pos (starEach es X.env)).any (·.1) = false := by rfl) :
    PE X (.Call (.Name x p) (e :: es) [] pos) (tCallQ P w K mg base j i t) := by
  subst hP hw hK hm hb
  exact pe_callP hr hN hv ha hd hcd he hpl
end Clo
local macro_rules | `(tactic| walk_at "hl") => `(tactic| first | assumption | exact L2.upd_same | (refine Bx.sat (by assumption) ?_; walk_at "hl"))
local macro_rules | `(tactic| walk_at "bx") => `(tactic| repeat (first
  | refine ⟨_, rfl, ?_⟩
  | refine ⟨_, _, rfl, rfl, ?_⟩
  | refine ⟨rfl, ?_⟩
  | refine Or.inl ⟨_, rfl, ?_⟩
  | refine ⟨Or.inr ⟨by decide, by decide⟩, ?_⟩
  | refine ⟨Or.inl ⟨by decide, by decide⟩, ?_⟩
  | refine ⟨(show (0 : Int) < _ by decide), ?_⟩
  | refine ⟨⟨by decide, by decide⟩, ?_⟩
  | refine ⟨_, _, rfl, Or.inl (L2.SqL.of (by walk_at "hl")), ?_⟩
  | refine ⟨_, _, rfl, Or.inr (L2.SqT.of (by walk_at "hl")), ?_⟩
  | refine ⟨Or.inl ⟨rfl, _, L2.SqL.of (by walk_at "hl")⟩, ?_⟩
  | refine ⟨_, _, _, rfl, rfl, (by walk_at "hl"), ?_⟩
  | refine ⟨_, _, rfl, rfl, (by walk_at "hl"), ?_⟩
  | refine ⟨_, _, _, _, rfl, rfl, L2.SqT.of (by walk_at "hl"), (by walk_at "hl"), ?_⟩
  | refine ⟨_, _, _, _, rfl, rfl, L2.SqL.of (by walk_at "hl"), (by walk_at "hl"), ?_⟩
  | refine ⟨_, _, rfl, Bx.SeqI.sq (by walk_at "hl"), ?_⟩
  | refine And.intro (by walk_at "hl") ?_))
local macro_rules | `(tactic| walk_at "nl") => `(tactic| ((try unfold L2.tNil); (try unfold L2.tNoPart)))

namespace My
open PySem PySem.Spec PyProof.Rows L2 Bx TL Tx Tz
def topS (i : Nat) : Stmt := PySem.Challenge.pw_reactivesynth_k25_to_buchi.main.body.getD i (.Pass ⟨0, 0, 0, 0⟩)
abbrev s_explore : Stmt := topS 1
abbrev N_explore : List Str := ["starts", "step", "numbers", "nodes", "start", "rows", "row", "node"]
theorem sc_explore : FnScope N_explore ["starts", "step"] (defScope s_explore) := ⟨rfl, rfl, rfl, by decide +kernel, rfl, by decide +kernel, by decide +kernel⟩
abbrev s_reachable : Stmt := topS 2
abbrev N_reachable : List Str := ["graph", "starts", "found", "waiting", "start", "node"]
theorem sc_reachable : FnScope N_reachable ["graph", "starts"] (defScope s_reachable) := ⟨rfl, rfl, rfl, by decide +kernel, rfl, by decide +kernel, by decide +kernel⟩
abbrev s_reversed_graph : Stmt := topS 3
abbrev N_reversed_graph : List Str := ["graph", "turned", "node", "row", "target", "_"]
theorem sc_reversed_graph : FnScope N_reversed_graph ["graph"] (defScope s_reversed_graph) := ⟨rfl, rfl, rfl, by decide +kernel, rfl, by decide +kernel, by decide +kernel⟩
abbrev s_finishing_order : Stmt := topS 4
abbrev N_finishing_order : List Str := ["graph", "order", "found", "start", "path", "node", "followed", "target"]
theorem sc_finishing_order : FnScope N_finishing_order ["graph"] (defScope s_finishing_order) := ⟨rfl, rfl, rfl, by decide +kernel, rfl, by decide +kernel, by decide +kernel⟩
abbrev s_components : Stmt := topS 5
abbrev N_components : List Str := ["graph", "turned", "homes", "count", "start", "waiting", "node"]
theorem sc_components : FnScope N_components ["graph"] (defScope s_components) := ⟨rfl, rfl, rfl, by decide +kernel, rfl, by decide +kernel, by decide +kernel⟩
abbrev s_on_cycles : Stmt := topS 6
abbrev N_on_cycles : List Str := ["graph", "homes", "cyclic", "node", "row", "target", "home"]
theorem sc_on_cycles : FnScope N_on_cycles ["graph"] (defScope s_on_cycles) := ⟨rfl, rfl, rfl, by decide +kernel, rfl, by decide +kernel, by decide +kernel⟩
abbrev s_check_states : Stmt := topS 12
abbrev N_check_states : List Str := ["states", "count", "before", "state"]
theorem sc_check_states : FnScope N_check_states ["states", "count"] (defScope s_check_states) := ⟨rfl, rfl, rfl, by decide +kernel, rfl, by decide +kernel, by decide +kernel⟩
abbrev s_empty_automaton : Stmt := topS 13
abbrev N_empty_automaton : List Str := ["letters"]
theorem sc_empty_automaton : FnScope N_empty_automaton ["letters"] (defScope s_empty_automaton) := ⟨rfl, rfl, rfl, by decide +kernel, rfl, by decide +kernel, by decide +kernel⟩
abbrev s_built_automaton : Stmt := topS 14
abbrev sn_built_automaton_step : Stmt := (defBody s_built_automaton).getD 1 (.Pass ⟨0, 0, 0, 0⟩)
abbrev N_built_automaton_step : List Str := ["state", "letters", "moves", "letter", "target"]
abbrev fr_built_automaton_step : List Str := ["letters", "moves"]
theorem sc_built_automaton_step : Clo.CScope N_built_automaton_step ["state"] fr_built_automaton_step (C8.fnScope sn_built_automaton_step) := Clo.cscope_by (by decide +kernel)
abbrev N_built_automaton : List Str := ["letters", "starts", "moves", "accepting", "step", "found", "_", "numbers", "rows", "state", "chosen", "at", "letter", "target"]
theorem sc_built_automaton : FnScope N_built_automaton ["letters", "starts", "moves", "accepting"] (defScope s_built_automaton) := ⟨rfl, rfl, rfl, by decide +kernel, rfl, by decide +kernel, by decide +kernel⟩
abbrev s_state_graph : Stmt := topS 15
abbrev N_state_graph : List Str := ["automaton", "graph", "row", "states", "state"]
theorem sc_state_graph : FnScope N_state_graph ["automaton"] (defScope s_state_graph) := ⟨rfl, rfl, rfl, by decide +kernel, rfl, by decide +kernel, by decide +kernel⟩
abbrev s_trim : Stmt := topS 17
abbrev N_trim : List Str := ["automaton", "kept", "numbers", "rows", "initial", "at", "state", "states"]
theorem sc_trim : FnScope N_trim ["automaton"] (defScope s_trim) := ⟨rfl, rfl, rfl, by decide +kernel, rfl, by decide +kernel, by decide +kernel⟩
abbrev s_renumbered : Stmt := topS 18
abbrev N_renumbered : List Str := ["states", "numbers", "state"]
theorem sc_renumbered : FnScope N_renumbered ["states", "numbers"] (defScope s_renumbered) := ⟨rfl, rfl, rfl, by decide +kernel, rfl, by decide +kernel, by decide +kernel⟩
abbrev s_useful_states : Stmt := topS 19
abbrev N_useful_states : List Str := ["automaton", "graph", "cyclic", "reached", "leading", "state"]
theorem sc_useful_states : FnScope N_useful_states ["automaton"] (defScope s_useful_states) := ⟨rfl, rfl, rfl, by decide +kernel, rfl, by decide +kernel, by decide +kernel⟩
abbrev s_check_state : Stmt := topS 22
abbrev N_check_state : List Str := ["state", "count"]
theorem sc_check_state : FnScope N_check_state ["state", "count"] (defScope s_check_state) := ⟨rfl, rfl, rfl, by decide +kernel, rfl, by decide +kernel, by decide +kernel⟩
abbrev s_to_buchi : Stmt := topS 23
abbrev sn_to_buchi_moves : Stmt := (defBody s_to_buchi).getD 0 (.Pass ⟨0, 0, 0, 0⟩)
abbrev N_to_buchi_moves : List Str := ["state", "letter", "parity", "place", "guess", "target", "priority"]
abbrev fr_to_buchi_moves : List Str := ["parity"]
theorem sc_to_buchi_moves : Clo.CScope N_to_buchi_moves ["state", "letter"] fr_to_buchi_moves (C8.fnScope sn_to_buchi_moves) := Clo.cscope_by (by decide +kernel)
abbrev sn_to_buchi_accepting : Stmt := (defBody s_to_buchi).getD 1 (.Pass ⟨0, 0, 0, 0⟩)
abbrev N_to_buchi_accepting : List Str := ["state", "parity"]
abbrev fr_to_buchi_accepting : List Str := ["parity"]
theorem sc_to_buchi_accepting : Clo.CScope N_to_buchi_accepting ["state"] fr_to_buchi_accepting (C8.fnScope sn_to_buchi_accepting) := Clo.cscope_by (by decide +kernel)
abbrev N_to_buchi : List Str := ["parity", "moves", "accepting"]
theorem sc_to_buchi : FnScope N_to_buchi ["parity"] (defScope s_to_buchi) := ⟨rfl, rfl, rfl, by decide +kernel, rfl, by decide +kernel, by decide +kernel⟩
abbrev s_law_draws : Stmt := topS 25
abbrev N_law_draws : List Str := ["script", "count", "cells", "found", "mixed", "k", "j", "cell", "again"]
theorem sc_law_draws : FnScope N_law_draws ["script", "count"] (defScope s_law_draws) := ⟨rfl, rfl, rfl, by decide +kernel, rfl, by decide +kernel, by decide +kernel⟩
abbrev s_law_take : Stmt := topS 26
abbrev N_law_take : List Str := ["draws", "limit"]
theorem sc_law_take : FnScope N_law_take ["draws", "limit"] (defScope s_law_take) := ⟨rfl, rfl, rfl, by decide +kernel, rfl, by decide +kernel, by decide +kernel⟩
abbrev s_law_is_integer : Stmt := topS 27
abbrev N_law_is_integer : List Str := ["actual"]
theorem sc_law_is_integer : FnScope N_law_is_integer ["actual"] (defScope s_law_is_integer) := ⟨rfl, rfl, rfl, by decide +kernel, rfl, by decide +kernel, by decide +kernel⟩
abbrev s_law_integers : Stmt := topS 28
abbrev N_law_integers : List Str := ["actual", "low", "high", "item"]
theorem sc_law_integers : FnScope N_law_integers ["actual", "low", "high"] (defScope s_law_integers) := ⟨rfl, rfl, rfl, by decide +kernel, rfl, by decide +kernel, by decide +kernel⟩
abbrev s_law_lasso : Stmt := topS 29
abbrev N_law_lasso : List Str := ["draws", "letters", "longest", "head", "loop", "k"]
theorem sc_law_lasso : FnScope N_law_lasso ["draws", "letters", "longest"] (defScope s_law_lasso) := ⟨rfl, rfl, rfl, by decide +kernel, rfl, by decide +kernel, by decide +kernel⟩
abbrev s_law_lives : Stmt := topS 30
abbrev N_law_lives : List Str := ["moves", "goods", "starts", "kept", "turn", "reach", "again", "changed", "j", "k", "target", "start"]
theorem sc_law_lives : FnScope N_law_lives ["moves", "goods", "starts"] (defScope s_law_lives) := ⟨rfl, rfl, rfl, by decide +kernel, rfl, by decide +kernel, by decide +kernel⟩
abbrev s_law_flat : Stmt := topS 31
abbrev N_law_flat : List Str := ["rows", "row"]
theorem sc_law_flat : FnScope N_law_flat ["rows"] (defScope s_law_flat) := ⟨rfl, rfl, rfl, by decide +kernel, rfl, by decide +kernel, by decide +kernel⟩
abbrev s_law_accepts : Stmt := topS 32
abbrev N_law_accepts : List Str := ["rows", "initial", "accepting", "lasso", "letters", "size", "moves", "goods", "state", "place", "after", "target"]
theorem sc_law_accepts : FnScope N_law_accepts ["rows", "initial", "accepting", "lasso"] (defScope s_law_accepts) := ⟨rfl, rfl, rfl, by decide +kernel, rfl, by decide +kernel, by decide +kernel⟩
abbrev s_law_states : Stmt := topS 33
abbrev N_law_states : List Str := ["actual", "count", "k"]
theorem sc_law_states : FnScope N_law_states ["actual", "count"] (defScope s_law_states) := ⟨rfl, rfl, rfl, by decide +kernel, rfl, by decide +kernel, by decide +kernel⟩
abbrev s_law_is_automaton : Stmt := topS 34
abbrev N_law_is_automaton : List Str := ["actual", "letters", "count", "row", "entry"]
theorem sc_law_is_automaton : FnScope N_law_is_automaton ["actual", "letters"] (defScope s_law_is_automaton) := ⟨rfl, rfl, rfl, by decide +kernel, rfl, by decide +kernel, by decide +kernel⟩
abbrev s_law_parity : Stmt := topS 35
abbrev N_law_parity : List Str := ["draws", "letters", "most", "count", "top", "priorities", "rows", "state", "letter"]
theorem sc_law_parity : FnScope N_law_parity ["draws", "letters", "most"] (defScope s_law_parity) := ⟨rfl, rfl, rfl, by decide +kernel, rfl, by decide +kernel, by decide +kernel⟩
abbrev s_law_best : Stmt := topS 36
abbrev N_law_best : List Str := ["start", "priorities", "rows", "lasso", "state", "letter", "k", "best"]
theorem sc_law_best : FnScope N_law_best ["start", "priorities", "rows", "lasso"] (defScope s_law_best) := ⟨rfl, rfl, rfl, by decide +kernel, rfl, by decide +kernel, by decide +kernel⟩
abbrev s_law : Stmt := topS 37
abbrev N_law : List Str := ["script", "draws", "letters", "start", "priorities", "rows", "lasso", "found", "expected"]
theorem sc_law : FnScope N_law ["script"] (defScope s_law) := ⟨rfl, rfl, rfl, by decide +kernel, rfl, by decide +kernel, by decide +kernel⟩
abbrev s_Automaton_init : Stmt := inClass (topS 11) 0
abbrev N_Automaton_init : List Str := ["self", "letters", "initial", "accepting", "rows", "row", "states"]
theorem sc_Automaton_init : FnScope N_Automaton_init ["self", "letters", "initial", "accepting", "rows"] (defScope s_Automaton_init) := ⟨rfl, rfl, rfl, by decide +kernel, rfl, by decide +kernel, by decide +kernel⟩
abbrev s_ParityAutomaton_init : Stmt := inClass (topS 21) 0
abbrev N_ParityAutomaton_init : List Str := ["self", "letters", "start", "priorities", "rows", "row", "state"]
theorem sc_ParityAutomaton_init : FnScope N_ParityAutomaton_init ["self", "letters", "start", "priorities", "rows"] (defScope s_ParityAutomaton_init) := ⟨rfl, rfl, rfl, by decide +kernel, rfl, by decide +kernel, by decide +kernel⟩
structure Has (K : PySem.W.Frag) (mg : Str → Option Value) (x : Str) (st : Stmt) (ps : List Str) : Prop where
  ex : ∃ (f : Addr) (fd : FuncData), L2.Fun K x x st f fd ∧ mg x = some (.ref f) ∧ Binds K fd ps []
def nm0 : Nat → Nat → Str := fun l _ => ("built_automaton" ++ ".<locals>." ++ "step" : Str)
def nm1 : Nat → Nat → Str := fun l _ => if l = 173 then ("to_buchi" ++ ".<locals>." ++ "moves" : Str) else ("to_buchi" ++ ".<locals>." ++ "accepting" : Str)
abbrev TbT (PA0 PA1 : Addr) : List NdefX.NTab := [(PA0, nm0), (PA1, nm1)]
theorem TbT_mem0 {PA0 PA1 : Addr} : (PA0, nm0) ∈ TbT PA0 PA1 := by simp [TbT]
theorem TbT_u0 {PA0 PA1 : Addr} (h : PA0 ≠ PA1) : ∀ p ∈ TbT PA0 PA1, p.1 = PA0 → p.2 = nm0 := fun p hp e => by
  rcases List.mem_cons.mp hp with z | z
  · rw [z]
  · rw [List.mem_singleton.mp z] at e; exact absurd e.symm h
theorem TbT_mem1 {PA0 PA1 : Addr} : (PA1, nm1) ∈ TbT PA0 PA1 := by simp [TbT]
theorem TbT_u1 {PA0 PA1 : Addr} (h : PA0 ≠ PA1) : ∀ p ∈ TbT PA0 PA1, p.1 = PA1 → p.2 = nm1 := fun p hp e => by
  rcases List.mem_cons.mp hp with z | z
  · rw [z] at e; exact absurd e h
  · rw [List.mem_singleton.mp z]
structure Txt (K : PySem.W.Frag) (mg : Str → Option Value) (cA0 PA0 cA1 PA1 : Addr) : Prop where
  h_explore : Has K mg "explore" s_explore ["starts", "step"]
  h_reachable : Has K mg "reachable" s_reachable ["graph", "starts"]
  h_reversed_graph : Has K mg "reversed_graph" s_reversed_graph ["graph"]
  h_finishing_order : Has K mg "finishing_order" s_finishing_order ["graph"]
  h_components : Has K mg "components" s_components ["graph"]
  h_on_cycles : Has K mg "on_cycles" s_on_cycles ["graph"]
  h_check_states : Has K mg "check_states" s_check_states ["states", "count"]
  h_empty_automaton : Has K mg "empty_automaton" s_empty_automaton ["letters"]
  h_built_automaton : Clo.HasC K mg "built_automaton" s_built_automaton ["letters", "starts", "moves", "accepting"] cA0
  h_state_graph : Has K mg "state_graph" s_state_graph ["automaton"]
  h_trim : Has K mg "trim" s_trim ["automaton"]
  h_renumbered : Has K mg "renumbered" s_renumbered ["states", "numbers"]
  h_useful_states : Has K mg "useful_states" s_useful_states ["automaton"]
  h_check_state : Has K mg "check_state" s_check_state ["state", "count"]
  h_to_buchi : Clo.HasC K mg "to_buchi" s_to_buchi ["parity"] cA1
  h_law_draws : Has K mg "_law_draws" s_law_draws ["script", "count"]
  h_law_take : Has K mg "_law_take" s_law_take ["draws", "limit"]
  h_law_is_integer : Has K mg "_law_is_integer" s_law_is_integer ["actual"]
  h_law_integers : Has K mg "_law_integers" s_law_integers ["actual", "low", "high"]
  h_law_lasso : Has K mg "_law_lasso" s_law_lasso ["draws", "letters", "longest"]
  h_law_lives : Has K mg "_law_lives" s_law_lives ["moves", "goods", "starts"]
  h_law_flat : Has K mg "_law_flat" s_law_flat ["rows"]
  h_law_accepts : Has K mg "_law_accepts" s_law_accepts ["rows", "initial", "accepting", "lasso"]
  h_law_states : Has K mg "_law_states" s_law_states ["actual", "count"]
  h_law_is_automaton : Has K mg "_law_is_automaton" s_law_is_automaton ["actual", "letters"]
  h_law_parity : Has K mg "_law_parity" s_law_parity ["draws", "letters", "most"]
  h_law_best : Has K mg "_law_best" s_law_best ["start", "priorities", "rows", "lasso"]
  z_bool : mg "bool" = none
  z_enumerate : mg "enumerate" = none
  z_int : mg "int" = none
  z_isinstance : mg "isinstance" = none
  z_len : mg "len" = none
  z_list : mg "list" = none
  z_max : mg "max" = none
  z_min : mg "min" = none
  z_range : mg "range" = none
  z_set : mg "set" = none
  z_sorted : mg "sorted" = none
  z_tuple : mg "tuple" = none
  er : ∃ (cI C fI D fP : Addr) (fdI fdP : FuncData), ErrC K mg "InvalidAutomaton" cI ∧ AutC K C ∧ Mk K C fI ∧ mg "Automaton" = some (.ref C) ∧ L2.Fun K "__init__" "Automaton.__init__" s_Automaton_init fI fdI ∧ Binds K fdI ["self", "letters", "initial", "accepting", "rows"] [] ∧ ParC K D ∧ Mk K D fP ∧ mg "ParityAutomaton" = some (.ref D) ∧ L2.Fun K "__init__" "ParityAutomaton.__init__" s_ParityAutomaton_init fP fdP ∧ Binds K fdP ["self", "letters", "start", "priorities", "rows"] []
  pn : PA0 ≠ PA1

-- BODY
def spLaw (K : PySem.W.Frag) (PA0 PA1 : Addr) : Sp := fun vs H Q _ => ∃ (a : Addr) (ns : List Int), vs = [.ref a] ∧ SqL K H a (ns.map V.int) ∧ ns.length ≤ 63 ∧ H PA0 = some (.tbl #[]) ∧ H PA1 = some (.tbl #[]) ∧ ∀ H', Q (.bl true) H'
section
variable {P : Program} {w : World} {K : PySem.W.Frag} {mg : Str → Option Value} {base : Heap} {cA0 PA0 : Addr} {cA1 PA1 : Addr}
def GrL (H : Hp) (r : Addr) (g : Gr.G) : Prop := ∃ as : List Addr, H r = some (.lst (as.map V.ref)) ∧ as.length = g.length ∧ ∀ i a, as[i]? = some a → H a = some (.lst ((Gr.row g i).map VN))
theorem GrL.same {H H' : Hp} {r : Addr} {g : Gr.G} (s : Same H H') (h : GrL H r g) : GrL H' r g := by
  obtain ⟨as, h1, h2, h3⟩ := h
  exact ⟨as, s _ _ h1, h2, fun i a e => s _ _ (h3 i a e)⟩
def Fl (n : Nat) (S : Nat → Prop) (fs : List Bool) : Prop := fs.length = n ∧ ∀ (u : Nat) (b : Bool), fs[u]? = some b → (b = true ↔ S u)
theorem Fl.set {n : Nat} {S S' : Nat → Prop} {fs : List Bool} {u : Nat} (h : Fl n S fs) (hs : ∀ x, S' x ↔ (x = u ∨ S x)) : Fl n S' (fs.set u true) := by
  refine ⟨by rw [List.length_set]; exact h.1, fun x b e => ?_⟩
  rw [List.getElem?_set] at e
  rw [hs]
  by_cases c : u = x
  · subst c
    rw [if_pos rfl] at e
    split at e
    · obtain rfl := Option.some.inj e
      exact ⟨fun _ => .inl rfl, fun _ => rfl⟩
    · cases e
  · rw [if_neg c] at e
    rw [h.2 x b e]
    exact ⟨fun z => .inr z, fun z => z.elim (fun y => absurd y.symm c) id⟩
theorem Fl.get {n : Nat} {S : Nat → Prop} {fs : List Bool} (h : Fl n S fs) {u : Nat} (hu : u < n) : ∃ b : Bool, fs[u]? = some b ∧ (b = true ↔ S u) :=
  ⟨_, List.getElem?_eq_getElem (by rw [h.1]; exact hu), h.2 u _ (List.getElem?_eq_getElem (by rw [h.1]; exact hu))⟩
theorem Fl.rep (n : Nat) : Fl n (fun _ => False) (List.replicate n false) := ⟨List.length_replicate, fun u b e => by
  rw [List.getElem?_replicate] at e
  split at e
  · obtain rfl := Option.some.inj e
    exact ⟨fun z => (by cases z), fun z => False.elim z⟩
  · (cases e)⟩
theorem Fl.cong {n : Nat} {S S' : Nat → Prop} {fs : List Bool} (h : Fl n S fs) (hs : ∀ x, S' x ↔ S x) : Fl n S' fs := ⟨h.1, fun u b e => (h.2 u b e).trans (hs u).symm⟩
structure FoI (r O F P : Addr) (g : Gr.G) (start : Nat) (H : Hp) (m : Nat) (σ : L2.St) (H' : Hp) : Prop where
  ex : ∃ (ps : List (Addr × Nat × Nat)) (ord : List Nat) (fs : List Bool) (v5 v6 v7 : Option V), m = Gr.below (fun u => (Gr.row g u).length + 1) g.length - Gr.steps g ord (ps.map (·.2)).reverse ∧
    σ = [some (.ref r), some (.ref O), some (.ref F), some (VN start), some (.ref P), v5, v6, v7] ∧ Same H H' ∧ H' O = some (.lst (ord.map VN)) ∧ H' F = some (.lst (fs.map V.bl)) ∧ H' P = some (.lst (ps.map fun x => V.ref x.1)) ∧ (∀ x ∈ ps, H' x.1 = some (.tup [VN x.2.1, VN x.2.2])) ∧
    Fl g.length (fun u => u ∈ ord ++ (ps.map (·.2)).reverse.map (·.1)) fs ∧ Gr.Dfs g ord (ps.map (·.2)).reverse ∧ ∀ u, u ≤ start → u ∈ ord ++ (ps.map (·.2)).reverse.map (·.1)
def spFin : Sp := fun vs H Q _ => ∃ (r : Addr) (g : Gr.G), vs = [.ref r] ∧ GrL H r g ∧ Gr.Ok g ∧ g.length ≤ 1000000 ∧
  ∀ (H' : Hp) (o : Addr) (ord : List Nat), Same H H' → H o = none → H' o = some (.lst (ord.map VN)) → Gr.Fin g ord → Q (.ref o) H'
theorem nd_len {l : List Nat} {n : Nat} (nd : l.Nodup) (lt : ∀ x ∈ l, x < n) : l.length ≤ n := by
  have h := Gr.wsum_le (fun _ => 1) n nd lt
  have h1 : ∀ l : List Nat, Gr.wsum (fun _ => 1) l = l.length := by
    intro l
    induction l with
    | nil => rfl
    | cons x l ih => rw [Gr.wsum_cons, ih, List.length_cons]; omega
  have h2 : ∀ n, Gr.below (fun _ => 1) n = n := by
    intro n
    induction n with
    | zero => rfl
    | succ n ih => show Gr.below _ n + 1 = _; rw [ih]
  rw [h1, h2] at h
  exact h
theorem cal_fin (T : Txt K mg cA0 PA0 cA1 PA1) : C8.Cal P w K mg base 1 "finishing_order" spFin [] := by
  obtain ⟨f, fd, F, hm, hb⟩ := T.h_finishing_order
  refine ⟨f, fd, _, [], F.ok sc_finishing_order (fun vs H Q E h => ?_) (fun cdv A outer s H vs Q E hr h => ?_), hm, F.kp, hb, .nil⟩
  · obtain ⟨r, g, rfl, _⟩ := h
    rfl
  · obtain ⟨r, g, rfl, hG, ok, hn, q⟩ := h
    refine ⟨_, (pss_cons
      (ps_set (i := 1) sc_finishing_order.nd rfl (Or.inl rfl) (pe_lst pa_nil))
      (pss_cons
      (ps_set (i := 2) sc_finishing_order.nd rfl (Or.inl rfl) (pe_op op_rep (pe_lst (pa_cons pe_bl pa_nil)) (pe_callB (call_lenK (K := K) rfl) (by rfl) T.z_len PySem.boot_len (pa_cons (pv 0) pa_nil))))
      (pss_cons
      (ps_for PassesOwn.never rfl (pi_range1 (by rfl) T.z_range (pa_cons (pe_callB (call_lenK (K := K) rfl) (by rfl) T.z_len PySem.boot_len (pa_cons (pv 0) pa_nil)) pa_nil)) (pg_name (i := 3) sc_finishing_order.nd rfl (.inl rfl)) (pss_cons
      (ps_if (pt_val (pe_ix (ix_listK (K := K) rfl) (pv 2) (pv 3) (fun _ _ => rfl))) (pss_one
      ps_continue) pss_nil)
      (pss_cons
      (ps_asg pe_bl (pg_sub (pv 2) (pv 3) set_list))
      (pss_cons
      (ps_set (i := 4) sc_finishing_order.nd rfl (Or.inl rfl) (pe_lst (pa_cons (pe_tup (pa_cons (pv 3) (pa_cons pe_int pa_nil))) pa_nil)))
      (pss_one
      (ps_while PassesOwn.never (pt_cmpR op_gt (pe_callB (call_lenK (K := K) rfl) (by rfl) T.z_len PySem.boot_len (pa_cons (pv 4) pa_nil)) pe_int (nomark _)) (pss_cons
      (ps_asg (pe_bm0 PySem.F.plainAttrs_list PySem.F.slot_list_pop PySem.F.type_list_pop mt_pop (pv 4)) (pg_tup (by rfl) (pgs_cons (pg_name (i := 5) sc_finishing_order.nd rfl (.inl rfl)) (pgs_cons (pg_name (i := 6) sc_finishing_order.nd rfl (.inl rfl)) pgs_nil))))
      (pss_cons
      (ps_if (pt_cmpR op_eq (pv 6) (pe_callB (call_lenK (K := K) rfl) (by rfl) T.z_len PySem.boot_len (pa_cons (pe_ix (ix_listK (K := K) rfl) (pv 0) (pv 5) (fun _ _ => rfl)) pa_nil)) (nomark _)) (pss_cons
      (ps_expr (pe_bm PySem.F.plainAttrs_list PySem.F.slot_list_append PySem.F.type_list_append mt_append (pv 1) (pa_cons (pv 5) pa_nil)))
      (pss_one
      ps_continue)) pss_nil)
      (pss_cons
      (ps_expr (pe_bm PySem.F.plainAttrs_list PySem.F.slot_list_append PySem.F.type_list_append mt_append (pv 4) (pa_cons (pe_tup (pa_cons (pv 5) (pa_cons (pe_op op_add (pv 6) pe_int) pa_nil))) pa_nil)))
      (pss_cons
      (ps_set (i := 7) sc_finishing_order.nd rfl (Or.inl rfl) (pe_ix (ix_listK (K := K) rfl) (pe_ix (ix_listK (K := K) rfl) (pv 0) (pv 5) (fun _ _ => rfl)) (pv 6) (fun _ _ => rfl)))
      (pss_one
      (ps_if (pt_not (pt_val (pe_ix (ix_listK (K := K) rfl) (pv 2) (pv 7) (fun _ _ => rfl)))) (pss_cons
      (ps_asg pe_bl (pg_sub (pv 2) (pv 7) set_list))
      (pss_one
      (ps_expr (pe_bm PySem.F.plainAttrs_list PySem.F.slot_list_append PySem.F.type_list_append mt_append (pv 4) (pa_cons (pe_tup (pa_cons (pv 7) (pa_cons pe_int pa_nil))) pa_nil))))) pss_nil))))))))))))
      (pss_one
      (ps_ret (pv 1)))))), ?_⟩
    obtain ⟨as, hr0, hal, ha⟩ := hG
    refine ⟨Nat.zero_le _, fun O nO => ?_⟩
    generalize hX : upd H O _ = H1; obtain ⟨sH1, eO⟩ := nw nO hX; clear hX
    refine ⟨by show 1 ≤ sizeLine; decide, fun l nl => ?_⟩
    generalize hX : upd H1 l _ = H2; obtain ⟨sH2, el⟩ := nw nl hX; clear hX
    have sH := sH1.trans sH2
    refine ⟨_, rfl, r, _, rfl, .inl (.of (sH _ _ hr0)), l, _, _, rfl, rfl, el, by omega, by rw [List.length_map]; omega, ?_, fun F nF => ?_⟩
    · rw [List.length_map, hal, Int.toNat_natCast]
      show 1 * g.length ≤ 16777216
      omega
    rw [List.length_map, hal, Int.toNat_natCast, show (List.replicate g.length [V.bl false]).flatten = (List.replicate g.length false).map V.bl by simp]
    generalize hX : upd H2 F _ = H3; obtain ⟨sH3, eF⟩ := nw nF hX; clear hX
    have eO3 := sH3 _ _ (sH2 _ _ eO)
    have nFO : F ≠ O := fun z => by rw [z, sH2 _ _ eO] at nF; cases nF
    have s3 : Same H H3 := sH.trans sH3
    have nF0 : H F = none := sH.free nF
    clear eO sH1 sH2 sH3 el nl nF
    refine ⟨_, rfl, r, _, rfl, .inl (.of (s3 _ _ hr0)), _, rfl, by omega, by rw [List.length_map]; omega, ?_⟩
    rw [List.length_map, hal, Int.toNat_natCast]
    refine for_range (lo := 0) (n := g.length) (fun i σ H' => ∃ (ord : List Nat) (fs : List Bool) (v3 v4 v5 v6 v7 : Option V), σ = [some (.ref r), some (.ref O), some (.ref F), v3, v4, v5, v6, v7] ∧ Same H H' ∧ H' O = some (.lst (ord.map VN)) ∧ H' F = some (.lst (fs.map V.bl)) ∧ Fl g.length (fun u => u ∈ ord) fs ∧ Gr.Dfs g ord [] ∧ ∀ u, u < i → u ∈ ord)
      ⟨[], _, _, _, _, _, _, rfl, s3, eO3, eF, (Fl.rep _).cong (by simp), Gr.Dfs.nil g, fun u hu => absurd hu (Nat.not_lt_zero u)⟩ ?_ ?_
    · clear s3 eO3 eF
      rintro i σ H4 hi ⟨ord, fs, v3, v4, v5, v6, v7, rfl, s4, eO, eF, hfl, hD, hall⟩
      obtain ⟨b, hb1, hb2⟩ := hfl.get hi
      refine ⟨_, rfl, _, rfl, F, _, _, .bl b, rfl, rfl, .of eF, ?_, b, rfl, ite2 (fun cc => ?_) (fun cc => ?_)⟩
      · show atI (fs.map V.bl) (0 + (i : Int)) = _
        rw [Int.zero_add]
        exact atI_nat (by rw [List.getElem?_map, hb1]; rfl)
      · refine ⟨ord, fs, _, _, _, _, _, rfl, s4, eO, eF, hfl, hD, fun u hu => ?_⟩
        rcases Nat.lt_succ_iff_lt_or_eq.mp hu with k | k
        · exact hall u k
        · rw [k]; exact hb2.mp cc
      have hni : i ∉ ord := fun z => cc (hb2.mpr z)
      rw [Int.zero_add]
      have hfsl : i < (fs.map V.bl).length := by rw [List.length_map, hfl.1]; exact hi
      refine ⟨_, rfl, _, rfl, F, _, _, i, rfl, rfl, eF, ixN_at hfsl, ?_⟩
      rw [show (fs.map V.bl).set i (.bl true) = (fs.set i true).map V.bl by rw [List.map_set]]
      generalize hX : upd H4 F _ = H5; have tH5 := mwt eF hX; clear eF; obtain ⟨sH5, eF, kH5⟩ := mw s4 nF0 hX; clear hX
      have eO5 := (kH5 O nFO.symm).trans eO
      refine ⟨_, rfl, by show 2 ≤ sizeLine; decide, fun t nt => ?_⟩
      generalize hX : upd H5 t _ = H6; obtain ⟨sH6, et⟩ := nw nt hX; clear hX
      refine ⟨by show 1 ≤ sizeLine; decide, fun P nP => ?_⟩
      generalize hX : upd H6 P _ = H7; obtain ⟨sH7, eP⟩ := nw nP hX; clear hX
      have hfl5 : Fl g.length (fun u => u ∈ ord ++ ([((i, 0) : Nat × Nat)]).map (·.1)) (fs.set i true) := hfl.set fun x => by simp [or_comm]
      have hD5 : Gr.Dfs g ord [(i, 0)] := hD.push hi (by simpa using hni) (by simp)
      have eO7 := sH7 _ _ (sH6 _ _ eO5)
      have eF7 := sH7 _ _ (sH6 _ _ eF)
      have et7 := sH7 _ _ et
      have s7 := (sH5.trans sH6).trans sH7
      have nP0 : H P = none := (sH5.trans sH6).free nP
      have nPO : P ≠ O := fun z => by rw [z, sH6 _ _ eO5] at nP; cases nP
      have nPF : P ≠ F := fun z => by rw [z, sH6 _ _ eF] at nP; cases nP
      refine ⟨FoI r O F P g i H, ⟨_, ⟨[(t, i, 0)], ord, _, _, _, _, rfl, rfl, s7, eO7, eF7, eP, fun x hx => by rw [List.mem_singleton.mp hx]; exact et7, hfl5, hD5, fun u hu => ?_⟩⟩, ?_⟩
      · rcases Nat.lt_or_eq_of_le hu with k | k
        · exact List.mem_append.mpr (.inl (hall u k))
        · rw [k]; simp
      clear hfl5 hD5 hall hni eO7 eF7 eP et7 hfl hD
      rintro m σ H8 ⟨ps, ord, fs, v5, v6, v7, rfl, rfl, s8, eO, eF, eP, hps, hfl, hD, hall⟩
      refine ⟨_, rfl, P, _, rfl, .inl (.of eP), _, _, rfl, rfl, _, rfl, ite2 (fun cc => ?_) (fun cc => ?_)⟩
      · have cc : 0 < ps.length := by have := of_decide_eq_true cc; rw [List.length_map] at this; omega
        obtain ⟨ps', ⟨t, n, k⟩, rfl⟩ : ∃ ps' x, ps = ps' ++ [x] := by
          rcases List.eq_nil_or_concat ps with rfl | ⟨a, b, rfl⟩
          · cases cc
          · exact ⟨a, b, List.concat_eq_append⟩
        have hstk : ((ps' ++ [(t, n, k)]).map (·.2)).reverse = (n, k) :: (ps'.map (·.2)).reverse := by simp
        rw [hstk] at hfl hD hall ⊢
        have et : H8 t = some (.tup [VN n, VN k]) := hps (t, n, k) (by simp)
        have hlt := Gr.steps_lt hD
        refine ⟨FoI r O F P g i H (Gr.below (fun u => (Gr.row g u).length + 1) g.length - (Gr.steps g ord ((n, k) :: (ps'.map (·.2)).reverse) + 1)), fun σ' H'' z => ⟨_, by omega, z⟩, ?_⟩
        refine ⟨_, rfl, .inl ⟨rfl, _, .of eP⟩, P, _, .ref t, rfl, rfl, eP, by simp, ?_⟩
        rw [show ((ps' ++ [(t, n, k)]).map fun x => V.ref x.1).dropLast = ps'.map fun x => V.ref x.1 by simp]
        generalize hX : upd H8 P _ = H9; have tH9 := mwt eP hX; clear eP; obtain ⟨sH9, eP, kH9⟩ := mw s8 nP0 hX; clear hX
        have et9 := tH9 _ _ et
        have eO9 := (kH9 O nPO.symm).trans eO
        have eF9 := (kH9 F nPF.symm).trans eF
        have hps9 : ∀ x ∈ ps', H9 x.1 = some (.tup [VN x.2.1, VN x.2.2]) := fun x hx => tH9 _ _ (hps x (List.mem_append.mpr (.inl hx)))
        refine ⟨t, _, rfl, .of et9, rfl, _, _, rfl, _, _, rfl, rfl, ?_⟩
        have hn := hD.lt n (by simp)
        have hko := (hD.fo (n, k) (by simp)).1
        have hra : as[n]? = some as[n] := List.getElem?_eq_getElem (by omega)
        have hrow := sH9 _ _ (ha n _ hra)
        generalize as[n] = a at hra hrow
        have hix : atI (as.map V.ref) (n : Int) = some (.ref a) := atI_nat (by rw [List.getElem?_map, hra]; rfl)
        refine ⟨_, rfl, _, rfl, _, rfl, r, _, _, .ref a, rfl, rfl, .of (sH9 _ _ hr0), hix, a, _, rfl, .inl (.of hrow), rfl, _, rfl, ite_eq (fun cc => ?_) (fun cc => ?_)⟩
        · have hkl : k = (Gr.row g n).length := by rw [List.length_map] at cc; omega
          have hol := nd_len hD.nd hD.lt
          rw [List.length_append] at hol
          refine ⟨_, rfl, .inl ⟨rfl, _, .of eO9⟩, _, rfl, O, _, _, rfl, rfl, eO9, by rw [List.length_map]; exact Nat.lt_of_le_of_lt (show ord.length ≤ 1000000 by omega) (by decide), ?_⟩
          generalize hX : upd H9 O _ = H10; have tH10 := mwt eO9 hX; clear eO9; obtain ⟨sH10, eO, kH10⟩ := mw sH9 nO hX; clear hX
          subst hkl
          refine ⟨ps', ord ++ [n], fs, _, _, _, by rw [Gr.steps_pop], rfl, sH10, by rw [eO, List.map_append]; rfl, (kH10 F nFO).trans eF9, (kH10 P nPO).trans eP, fun x hx => tH10 _ _ (hps9 x hx), hfl.cong fun u => by simp [or_comm, or_assoc, or_left_comm], hD.pop, fun u hu => ?_⟩
          have := hall u hu
          simp at this ⊢
          exact this
        · have hkl : k < (Gr.row g n).length := by rw [List.length_map] at cc; have hko : k ≤ (Gr.row g n).length := hko; omega
          refine ⟨_, rfl, .inl ⟨rfl, _, .of eP⟩, _, rfl, _, rfl, _, _, rfl, rfl, by show 2 ≤ sizeLine; decide, fun t2 nt2 => ?_⟩
          generalize hX : upd H9 t2 _ = H10; obtain ⟨sH10, et2⟩ := nw nt2 hX; clear hX
          have hol := nd_len hD.nd hD.lt
          simp only [List.length_append, List.length_map, List.length_reverse, List.length_cons] at hol
          refine ⟨P, _, _, rfl, rfl, sH10 _ _ eP, by rw [List.length_map]; exact Nat.lt_of_le_of_lt (show ps'.length ≤ 1000000 by omega) (by decide), ?_⟩
          have nt2P : t2 ≠ P := fun z => by rw [z, eP] at nt2; cases nt2
          have s10 := sH9.trans sH10
          have eP10 := sH10 _ _ eP
          generalize hX : upd H10 P _ = H11; have tH11 := mwt eP10 hX; clear eP10; obtain ⟨sH11, eP, kH11⟩ := mw s10 nP0 hX; clear hX
          have et2' := tH11 _ _ et2
          have eO11 := (kH11 O nPO.symm).trans (sH10 _ _ eO9)
          have eF11 := (kH11 F nPF.symm).trans (sH10 _ _ eF9)
          have hps11 : ∀ x ∈ ps', H11 x.1 = some (.tup [VN x.2.1, VN x.2.2]) := fun x hx => tH11 _ _ (sH10 _ _ (hps9 x hx))
          obtain ⟨y, hy⟩ : ∃ y, (Gr.row g n)[k]? = some y := ⟨_, List.getElem?_eq_getElem hkl⟩
          have hyl : y < g.length := ok n y (List.mem_of_getElem? hy)
          refine ⟨_, rfl, _, rfl, r, _, _, .ref a, rfl, rfl, .of (sH11 _ _ hr0), hix, _, rfl, a, _, _, VN y, rfl, rfl, .of (sH11 _ _ (ha n _ hra)), atI_nat (by rw [List.getElem?_map, hy]; rfl), ?_⟩
          obtain ⟨b2, hb3, hb4⟩ := hfl.get hyl
          refine ⟨_, rfl, _, rfl, F, _, _, .bl b2, rfl, rfl, .of eF11, atI_nat (by rw [List.getElem?_map, hb3]; rfl), b2, rfl, ?_⟩
          cases b2 with
          | true =>
            refine iteB_f (c := !true) rfl ?_
            refine ⟨ps' ++ [(t2, n, k + 1)], ord, fs, _, _, _, ?_, rfl, sH11, eO11, eF11, by rw [eP, List.map_append]; rfl, fun x hx => ?_, ?_, ?_, ?_⟩
            · rw [show ((ps' ++ [(t2, n, k + 1)]).map (·.2)).reverse = (n, k + 1) :: (ps'.map (·.2)).reverse by simp, Gr.steps_skip]
            · rcases List.mem_append.mp hx with z | z
              · exact hps11 x z
              · rw [List.mem_singleton.mp z]; exact et2'
            · exact hfl.cong fun u => by simp
            · rw [show ((ps' ++ [(t2, n, k + 1)]).map (·.2)).reverse = (n, k + 1) :: (ps'.map (·.2)).reverse by simp]
              exact hD.skip hy (hb4.mp rfl)
            · intro u hu
              have := hall u hu
              simp at this ⊢
              exact this
          | false =>
            refine iteB_t (c := !false) rfl ?_
            have hyn : y ∉ ord ++ List.map (·.1) ((n, k) :: (ps'.map (·.2)).reverse) := fun z => by have := hb4.mpr z; cases this
            have hfsl : y < (fs.map V.bl).length := by rw [List.length_map, hfl.1]; exact hyl
            refine ⟨_, rfl, _, rfl, F, _, _, y, rfl, rfl, eF11, ixN_at hfsl, ?_⟩
            rw [show (fs.map V.bl).set y (.bl true) = (fs.set y true).map V.bl by rw [List.map_set]]
            generalize hX : upd H11 F _ = H12; have tH12 := mwt eF11 hX; clear eF11; obtain ⟨sH12, eF, kH12⟩ := mw sH11 nF0 hX; clear hX
            refine ⟨_, rfl, .inl ⟨rfl, _, .of ((kH12 P nPF).trans eP)⟩, _, rfl, by show 2 ≤ sizeLine; decide, fun t3 nt3 => ?_⟩
            have eP12 := (kH12 P nPF).trans eP
            have nt3P : t3 ≠ P := fun z => by rw [z, eP12] at nt3; cases nt3
            have nFt3 : F ≠ t3 := fun z => by rw [← z, eF] at nt3; cases nt3
            generalize hX : upd H12 t3 _ = H13; obtain ⟨sH13, et3⟩ := nw nt3 hX; clear hX
            have s13 := sH12.trans sH13
            have eP13 := sH13 _ _ eP12
            refine ⟨P, _, _, rfl, rfl, eP13, by rw [List.length_append, List.length_map]; exact Nat.lt_of_le_of_lt (show ps'.length + 1 ≤ 1000000 by omega) (by decide), ?_⟩
            generalize hX : upd H13 P _ = H14; have tH14 := mwt eP13 hX; clear eP13; obtain ⟨sH14, eP, kH14⟩ := mw s13 nP0 hX; clear hX
            have hst : ((ps' ++ [((t2, n, k + 1) : Addr × Nat × Nat)] ++ [((t3, y, 0) : Addr × Nat × Nat)]).map (fun x : Addr × Nat × Nat => x.2)).reverse = (y, 0) :: (n, k + 1) :: (ps'.map (·.2)).reverse := by simp
            have hE : Gr.E g n y := List.mem_of_getElem? hy
            refine ⟨ps' ++ [(t2, n, k + 1)] ++ [(t3, y, 0)], ord, fs.set y true, _, _, _, ?_, rfl, sH14, ?_, ?_, by rw [eP]; simp, fun x hx => ?_, ?_, ?_, ?_⟩
            · rw [hst, Gr.steps_push, Gr.steps_skip]
            · rw [kH14 O nPO.symm]; exact sH13 _ _ ((kH12 O nFO.symm).trans eO11)
            · rw [kH14 F nPF.symm]; exact sH13 _ _ eF
            · rcases List.mem_append.mp hx with z | z
              · rcases List.mem_append.mp z with z | z
                · exact tH14 _ _ (sH13 _ _ (tH12 _ _ (hps11 x z)))
                · rw [List.mem_singleton.mp z]; exact tH14 _ _ (sH13 _ _ (tH12 _ _ et2'))
              · rw [List.mem_singleton.mp z]; exact tH14 _ _ et3
            · rw [hst]
              exact hfl.set fun u => by simp [or_comm, or_left_comm, or_assoc]
            · rw [hst]
              have hD2 : Gr.Dfs g ord ((n, k) :: (ps'.map (·.2)).reverse) := hD
              have hD3 := hD2.push hyl hyn fun x hx => by
                rcases List.mem_cons.mp hx with rfl | hx
                · exact .one hE
                · have hch := hD2.ch
                  rw [List.pairwise_cons] at hch
                  exact (hch.1 x hx).snoc hE
              refine hD3.skip2 hy (by simp)
            · rw [hst]
              intro u hu
              have := hall u hu
              simp at this ⊢
              rcases this with h | h | h
              · exact .inl h
              · exact .inr (.inr (.inl h))
              · exact .inr (.inr (.inr h))
      · have cc : ps = [] := by
          cases ps with
          | nil => rfl
          | cons x l => exact absurd (decide_eq_true (by simp)) cc
        subst cc
        refine ⟨ord, fs, _, _, _, _, _, rfl, s8, eO, eF, hfl.cong fun u => by simp, hD, fun u hu => ?_⟩
        have := hall u (by omega)
        simpa using this
    · rintro σ H4 ⟨ord, fs, v3, v4, v5, v6, v7, rfl, s4, eO, eF, hfl, hD, hall⟩
      exact ⟨_, rfl, q _ _ ord s4 nO eO (hD.fin hall)⟩
/-- nested lists of which each is to be changed -/
structure NL (H0 : Hp) (D : Addr) (bs : List Addr) (t : Gr.G) (H' : Hp) : Prop where
  d : H' D = some (.lst (bs.map V.ref))
  len : bs.length = t.length
  nd : bs.Nodup
  fr : ∀ b ∈ bs, H0 b = none ∧ b ≠ D
  get : ∀ i b, bs[i]? = some b → H' b = some (.lst ((Gr.row t i).map VN))
theorem NL.grl {H0 H' : Hp} {D : Addr} {bs : List Addr} {t : Gr.G} (h : NL H0 D bs t H') : GrL H' D t := ⟨bs, h.d, h.len, h.get⟩
theorem row_set (t : Gr.G) (i : Nat) (r : List Nat) (k : Nat) : Gr.row (t.set i r) k = if k = i ∧ i < t.length then r else Gr.row t k := by
  unfold Gr.row
  rw [List.getD_eq_getElem?_getD, List.getD_eq_getElem?_getD, List.getElem?_set]
  by_cases c : i = k
  · subst c
    by_cases l : i < t.length
    · rw [if_pos rfl, if_pos l, if_pos ⟨rfl, l⟩]; rfl
    · rw [if_pos rfl, if_neg l, if_neg (fun z => l z.2), List.getElem?_eq_none (by omega)]
  · rw [if_neg c, if_neg (fun z => c z.1.symm)]
theorem NL.keep {H0 H' H'' : Hp} {D : Addr} {bs : List Addr} {t : Gr.G} (s : Same H' H'') (h : NL H0 D bs t H') : NL H0 D bs t H'' := ⟨s _ _ h.d, h.len, h.nd, h.fr, fun i b e => s _ _ (h.get i b e)⟩
theorem NL.put {H0 H' : Hp} {D b : Addr} {bs : List Addr} {t : Gr.G} {i : Nat} {r : List Nat} (h : NL H0 D bs t H') (hb : bs[i]? = some b) : NL H0 D bs (t.set i r) (upd H' b (.lst (r.map VN))) := by
  have hm := List.mem_of_getElem? hb
  have hil : i < t.length := by rw [← h.len]; exact (List.getElem?_eq_some_iff.mp hb).1
  refine ⟨by rw [upd_ne (h.fr b hm).2.symm]; exact h.d, by rw [List.length_set]; exact h.len, h.nd, h.fr, fun k c hc => ?_⟩
  rw [row_set]
  by_cases e : k = i
  · subst e
    rw [hb] at hc
    obtain rfl := Option.some.inj hc
    rw [upd_same, if_pos ⟨rfl, hil⟩]
  · have : c ≠ b := fun z => by
      subst z
      exact e (nd_inj h.nd hc hb)
    rw [upd_ne this, if_neg (fun z => e z.1)]
    exact h.get k c hc
theorem NL.put_same {H0 H' : Hp} {D b : Addr} {bs : List Addr} {t : Gr.G} {o : HO} (s : Same H0 H') (h : NL H0 D bs t H') (hb : b ∈ bs) : Same H0 (upd H' b o) := fun x y e => by
  rw [upd_ne (ne_of_none e (h.fr b hb).1)]
  exact s _ _ e
/-- the edges of the nodes below i, and of i the first j, turned round -/
def RevI (g t : Gr.G) (i j : Nat) : Prop := t.length = g.length ∧ (∀ u v, Gr.E t u v ↔ ((v < i ∧ Gr.E g v u) ∨ (v = i ∧ u ∈ (Gr.row g i).take j))) ∧ ∀ u, (Gr.row t u).length ≤ Gr.below (fun u => (Gr.row g u).length) i + j
theorem RevI.zero {g : Gr.G} : RevI g (List.replicate g.length []) 0 0 := by
  have hr : ∀ u, Gr.row (List.replicate g.length ([] : List Nat)) u = [] := fun u => by
    unfold Gr.row
    rw [List.getD_eq_getElem?_getD, List.getElem?_replicate]
    split <;> rfl
  refine ⟨List.length_replicate, fun u v => ?_, fun u => by rw [hr]; exact Nat.zero_le _⟩
  unfold Gr.E
  rw [hr]
  simp
theorem RevI.next {g t : Gr.G} {i : Nat} (h : RevI g t i (Gr.row g i).length) : RevI g t (i + 1) 0 := by
  refine ⟨h.1, fun u v => ?_, fun u => h.2.2 u⟩
  rw [h.2.1, List.take_length]
  simp only [List.take_zero, List.not_mem_nil, and_false, or_false]
  constructor
  · rintro (⟨a, b⟩ | ⟨rfl, b⟩)
    · exact ⟨by omega, b⟩
    · exact ⟨by omega, b⟩
  · rintro ⟨a, b⟩
    rcases Nat.lt_succ_iff_lt_or_eq.mp a with k | rfl
    · exact .inl ⟨k, b⟩
    · exact .inr ⟨rfl, b⟩
theorem take_succ' {l : List Nat} {j v : Nat} (h : l[j]? = some v) : l.take (j + 1) = l.take j ++ [v] := by
  rw [List.take_succ, h]; rfl
theorem RevI.step {g t : Gr.G} {i j v : Nat} (h : RevI g t i j) (hv : (Gr.row g i)[j]? = some v) (hl : v < g.length) : RevI g (t.set v (Gr.row t v ++ [i])) i (j + 1) := by
  have hvt : v < t.length := by rw [h.1]; exact hl
  refine ⟨by rw [List.length_set]; exact h.1, fun u w => ?_, fun u => ?_⟩
  · unfold Gr.E
    rw [row_set, take_succ' hv]
    by_cases e : u = v
    · subst e
      rw [if_pos ⟨rfl, hvt⟩, List.mem_append, List.mem_append]
      have := h.2.1 u w
      unfold Gr.E at this
      rw [this]
      simp only [List.mem_singleton, or_true, and_true]
      constructor
      · rintro ((a | ⟨a, b⟩) | a)
        · exact .inl a
        · exact .inr a
        · exact .inr a
      · rintro (a | a)
        · exact .inl (.inl a)
        · exact .inr a
    · rw [if_neg (fun z => e z.1), List.mem_append]
      have := h.2.1 u w
      unfold Gr.E at this
      rw [this]
      simp only [List.mem_singleton, e, or_false]
  · have := h.2.2 u
    rw [row_set]
    split
    · rename_i c
      rw [List.length_append, List.length_singleton]
      have := h.2.2 v
      omega
    · omega
theorem RevI.fin {g t : Gr.G} (ok : Gr.Ok g) (h : RevI g t g.length 0) : Gr.Rev g t := by
  refine ⟨h.1, fun u v => ?_⟩
  rw [h.2.1]
  simp only [List.take_zero, List.not_mem_nil, and_false, or_false]
  exact ⟨fun z => ⟨z.2, z.1, ok _ _ z.2⟩, fun z => ⟨z.2.1, z.1⟩⟩
theorem below_mono (w : Nat → Nat) : ∀ {n m : Nat}, n ≤ m → Gr.below w n ≤ Gr.below w m
  | n, 0, h => by have : n = 0 := by omega
                  rw [this]; exact Nat.le_refl _
  | n, m + 1, h => by
    rcases Nat.lt_or_eq_of_le h with k | k
    · have := below_mono w (Nat.le_of_lt_succ k)
      show _ ≤ Gr.below w m + w m
      omega
    · rw [k]; exact Nat.le_refl _
def Small (g : Gr.G) : Prop := g.length ≤ 100000 ∧ Gr.below (fun u => (Gr.row g u).length) g.length ≤ 1000000
def spRevL : Sp := fun vs H Q _ => ∃ (r : Addr) (g : Gr.G), vs = [.ref r] ∧ GrL H r g ∧ Gr.Ok g ∧ Small g ∧
  ∀ (H' : Hp) (y : Addr) (t : Gr.G), Same H H' → H y = none → GrL H' y t → Gr.Rev g t → Q (.ref y) H'
theorem cal_revL (T : Txt K mg cA0 PA0 cA1 PA1) : C8.Cal P w K mg base 1 "reversed_graph" spRevL [] := by
  obtain ⟨f, fd, F, hm, hb⟩ := T.h_reversed_graph
  refine ⟨f, fd, _, [], F.ok sc_reversed_graph (fun vs H Q E h => ?_) (fun cdv A outer s H vs Q E hr h => ?_), hm, F.kp, hb, .nil⟩
  · obtain ⟨r, g, rfl, _⟩ := h
    rfl
  · obtain ⟨r, g, rfl, hG, ok, ⟨hn, hsm⟩, q⟩ := h
    refine ⟨_, (pss_cons
      (ps_setLc (i := 1) (own := [("_", 5)]) (g := gName 5) (tt := tYes) rfl sc_reversed_graph.nd rfl rfl (sw_true rfl rfl rfl (by decide +kernel)) (pi_list (pv 0)) (blkOk_by (N := N_reversed_graph) (sc := defScope s_reversed_graph) (by decide +kernel)) (fun _ _ _ _ _ => (pg_name (i := 5) sc_reversed_graph.nd rfl (Or.inl rfl))) (fun _ _ _ _ _ => pts_nil) (fun _ _ _ _ _ => (pe_lst pa_nil)))
      (pss_cons
      (ps_for PassesOwn.never rfl (pi_enum (by rfl) T.z_enumerate (pa_cons (pv 0) pa_nil)) (pg_tup (by rfl) (pgs_cons (pg_name (i := 2) sc_reversed_graph.nd rfl (.inl rfl)) (pgs_cons (pg_name (i := 3) sc_reversed_graph.nd rfl (.inl rfl)) pgs_nil))) (pss_one
      (ps_for PassesOwn.never rfl (pi_list (pv 3)) (pg_name (i := 4) sc_reversed_graph.nd rfl (.inl rfl)) (pss_one
      (ps_expr (pe_bm PySem.F.plainAttrs_list PySem.F.slot_list_append PySem.F.type_list_append mt_append (pe_ix (ix_listK (K := K) rfl) (pv 1) (pv 4) (fun _ _ => rfl)) (pa_cons (pv 2) pa_nil)))))))
      (pss_one
      (ps_ret (pv 1))))), ?_⟩
    obtain ⟨as, hr0, hal, ha⟩ := hG
    have hl2 : (as.map V.ref).length = g.length := by rw [List.length_map, hal]
    refine ⟨_, rfl, r, rfl, ⟨_, .of hr0⟩, fun D nD => lc_list (K := K) (a := r) (xs := as.map V.ref) (fun i H' => ∃ bs : List Addr, Same H H' ∧ NL H D bs (List.replicate i []) H')
      ⟨[], same_new nD, upd_same, rfl, by simp, by simp, by simp⟩ (fun i H' _ ⟨_, z, _⟩ => .of (z _ _ hr0)) ?_ ?_⟩
    · rintro i v H2 hi ⟨bs, s2, h2⟩
      have hil : i < g.length := by rw [← hl2]; exact (List.getElem?_eq_some_iff.mp hi).1
      refine ⟨rfl, Nat.zero_le _, fun t nt => ?_⟩
      generalize hX : upd H2 t _ = H3; obtain ⟨sH3, et⟩ := nw nt hX; clear hX
      have h3 := h2.keep sH3
      have hbl : bs.length = i := by rw [h2.len, List.length_replicate]
      have ntD : t ≠ D := fun z => by rw [z, h2.d] at nt; cases nt
      have ntb : t ∉ bs := fun z => by
        obtain ⟨j, hj⟩ := List.mem_iff_getElem?.mp z
        rw [h2.get j t hj] at nt
        cases nt
      refine ⟨_, h3.d, by rw [List.length_map]; exact Nat.lt_of_le_of_lt (show bs.length ≤ 100000 by omega) (by decide), bs ++ [t], ?_, ?_, ?_, List.nodup_append.mpr ⟨h2.nd, by simp, fun a ha b hb' => by rw [List.mem_singleton.mp hb']; exact fun z => ntb (z ▸ ha)⟩, fun b hb' => ?_, fun j b hj => ?_⟩
      · have s3 := s2.trans sH3
        exact fun x y e => by rw [upd_ne (ne_of_none e nD)]; exact s3 _ _ e
      · rw [upd_same, List.map_append]; rfl
      · rw [List.length_append, hbl]; simp
      · rcases List.mem_append.mp hb' with z | z
        · exact h2.fr b z
        · rw [List.mem_singleton.mp z]; exact ⟨s2.free nt, ntD⟩
      · rcases snocg hj with ⟨_, z⟩ | ⟨_, z⟩
        · rw [upd_ne (h2.fr b (List.mem_of_getElem? z)).2, h3.get j b z, show Gr.row (List.replicate i ([] : List Nat)) j = [] from by unfold Gr.row; rw [List.getD_eq_getElem?_getD, List.getElem?_replicate]; split <;> rfl, show Gr.row (List.replicate (i + 1) ([] : List Nat)) j = [] from by unfold Gr.row; rw [List.getD_eq_getElem?_getD, List.getElem?_replicate]; split <;> rfl]
        · rw [z, upd_ne ntD, et, show Gr.row (List.replicate (i + 1) ([] : List Nat)) j = [] from by unfold Gr.row; rw [List.getD_eq_getElem?_getD, List.getElem?_replicate]; split <;> rfl]; rfl
    rintro H2 ⟨bs, s2, h2⟩
    rw [hl2] at h2
    have hdeg : ∀ i, i < g.length → Gr.below (fun u => (Gr.row g u).length) i + (Gr.row g i).length ≤ 1000000 := fun i hi => Nat.le_trans (below_mono (fun u => (Gr.row g u).length) (show i + 1 ≤ g.length from hi)) hsm
    refine ⟨_, rfl, r, _, rfl, .of (s2 _ _ hr0), ?_⟩
    refine for_it (walk_enum (K := K) (a := r) (xs := as.map V.ref)) (fun i σ H' => ∃ (v2 v3 v4 v5 : Option V) (t : Gr.G), σ = [some (.ref r), some (.ref D), v2, v3, v4, v5] ∧ Same H H' ∧ NL H D bs t H' ∧ RevI g t i 0)
      ⟨none, none, none, none, _, rfl, s2, h2, RevI.zero⟩ (fun i σ H' _ ⟨_, _, _, _, _, _, z, _⟩ => .of (z _ _ hr0)) ?_ ?_
    · clear s2 h2
      rintro i v σ H3 H4 hi ⟨v2, v3, v4, v5, t, rfl, s3, h3, hR⟩ ⟨p, xi, y, rfl, np, rfl, hx, hy⟩
      obtain rfl := Option.some.inj hx
      obtain ⟨a, hia, rfl⟩ := refsg hy
      have hil : i < g.length := by rw [← hal]; exact lt_of_get hia
      have hra := ha i a hia
      generalize hX : upd H3 p _ = H4; obtain ⟨sH4, ep⟩ := nw np hX; clear hX
      have s4 := s3.trans sH4
      have h4 := h3.keep sH4
      refine ⟨p, _, rfl, .of ep, rfl, _, _, rfl, _, _, rfl, rfl, ?_⟩
      refine ⟨_, rfl, a, rfl, ⟨_, .of (s4 _ _ hra)⟩, for_list (K := K) (a := a) (xs := (Gr.row g i).map VN) (fun j σ H' => ∃ (v4 v5 : Option V) (t : Gr.G), σ = [some (.ref r), some (.ref D), some (VN i), some (.ref a), v4, v5] ∧ Same H H' ∧ NL H D bs t H' ∧ RevI g t i j)
        ⟨v4, v5, t, rfl, s4, h4, hR⟩ (fun j σ H' _ ⟨_, _, _, _, z, _⟩ => .of (z _ _ hra)) ?_ ?_⟩
      · clear s4 h4 hR
        rintro j v σ H5 hj ⟨v4, v5, t, rfl, s5, h5, hR⟩
        obtain ⟨y, hy, rfl⟩ := nats_get hj
        have hyl := ok i y (List.mem_of_getElem? hy)
        have hyb : y < bs.length := by rw [h5.len, hR.1]; exact hyl
        have hbb := List.getElem?_eq_getElem hyb
        have eb := h5.get y _ hbb
        have hjl := lt_of_get hy
        have hll := hR.2.2 y
        have := hdeg i hil
        refine ⟨_, rfl, _, rfl, D, _, _, .ref bs[y], rfl, rfl, .of h5.d, atN hbb, .inl ⟨rfl, _, .of eb⟩, _, rfl, bs[y], _, _, rfl, rfl, eb, by rw [List.length_map]; exact Nat.lt_of_le_of_lt (show (Gr.row t y).length ≤ 1000000 by omega) (by decide), ?_⟩
        rw [show (Gr.row t y).map VN ++ [VN i] = (Gr.row t y ++ [i]).map VN by rw [List.map_append]; rfl]
        exact ⟨_, _, _, rfl, h5.put_same s5 (List.mem_of_getElem? hbb), h5.put hbb, hR.step hy hyl⟩
      · rintro σ H5 ⟨v4, v5, t, rfl, s5, h5, hR⟩
        rw [List.length_map] at hR
        exact ⟨_, _, _, _, t, rfl, s5, h5, hR.next⟩
    · rintro σ H3 ⟨v2, v3, v4, v5, t, rfl, s3, h3, hR⟩
      rw [hl2] at hR
      exact ⟨_, rfl, q H3 D t s3 nD h3.grl (hR.fin ok)⟩
def hv (o : Option Nat) : V := .int (match o with | none => -1 | some i => (i : Int))
def nn : List (Option Nat) → Nat
  | [] => 0
  | none :: l => nn l + 1
  | some _ :: l => nn l
theorem nn_set {c : Nat} : ∀ {hs : List (Option Nat)} {u : Nat}, hs[u]? = some none → nn (hs.set u (some c)) + 1 = nn hs
  | [], _, h => by simp at h
  | none :: l, 0, _ => rfl
  | some _ :: l, 0, h => by simp at h
  | none :: l, u + 1, h => by
    have := nn_set (c := c) (hs := l) (u := u) (by simpa using h)
    show nn (l.set u (some c)) + 1 + 1 = nn l + 1
    omega
  | some _ :: l, u + 1, h => by
    have := nn_set (c := c) (hs := l) (u := u) (by simpa using h)
    exact this
theorem nn_le : ∀ hs : List (Option Nat), nn hs ≤ hs.length
  | [] => Nat.le_refl 0
  | none :: l => Nat.succ_le_succ (nn_le l)
  | some _ :: l => Nat.le_succ_of_le (nn_le l)
def hof (hs : List (Option Nat)) (u : Nat) : Option Nat := (hs[u]?).join
theorem hof_some {hs : List (Option Nat)} {u : Nat} {o : Option Nat} (h : hs[u]? = some o) : hof hs u = o := by unfold hof; rw [h]; rfl
theorem hof_set {hs : List (Option Nat)} {u c : Nat} (h : u < hs.length) (x : Nat) : hof (hs.set u (some c)) x = if x = u then some c else hof hs x := by
  unfold hof
  rw [List.getElem?_set]
  by_cases e : u = x
  · subst e; rw [if_pos rfl, if_pos rfl, if_pos h]; rfl
  · rw [if_neg e, if_neg (fun z => e z.symm)]
/-- what a search backwards from s keeps -/
structure Bw (g t : Gr.G) (h0 h : Nat → Option Nat) (c s : Nat) (ws : List Nat) (cur : Nat) (dn : List Nat) : Prop where
  old : ∀ u i, h0 u = some i → h u = some i
  new : ∀ u i, h0 u = none → h u = some i → i = c ∧ u < g.length ∧ Gr.Rc g u s
  cl : ∀ u, h0 u = none → h u = some c → u ∈ ws ∨ (u = cur ∧ ∀ x ∈ dn, h x ≠ none) ∨ ∀ x ∈ Gr.row t u, h x ≠ none
  ws : ∀ u ∈ ws, h0 u = none ∧ h u = some c
  st : h s = some c
theorem Bw.start {g t : Gr.G} {h0 h : Nat → Option Nat} {c s : Nat} (hs : h0 s = none) (hl : s < g.length) (e : ∀ x, h x = if x = s then some c else h0 x) {d : Nat} {dn : List Nat} : Bw g t h0 h c s [s] d dn := by
  refine ⟨fun u i k => ?_, fun u i k1 k2 => ?_, fun u k1 k2 => ?_, fun u hu => ?_, by rw [e, if_pos rfl]⟩
  · rw [e, if_neg (fun z => by rw [z, hs] at k; cases k)]
    exact k
  · rw [e] at k2
    split at k2
    · rename_i z
      subst z
      exact ⟨(Option.some.inj k2).symm, hl, .refl _⟩
    · rw [k1] at k2; cases k2
  · rw [e] at k2
    split at k2
    · rename_i z
      exact .inl (by rw [z]; simp)
    · rw [k1] at k2; cases k2
  · rw [List.mem_singleton.mp hu]
    exact ⟨hs, by rw [e, if_pos rfl]⟩
theorem Bw.pop {g t : Gr.G} {h0 h : Nat → Option Nat} {c s cur d : Nat} {ws dn : List Nat} (k : Bw g t h0 h c s (ws ++ [cur]) d dn) (hd : dn = Gr.row t d) : Bw g t h0 h c s ws cur [] := by
  refine ⟨k.old, k.new, fun u k1 k2 => ?_, fun u hu => k.ws u (List.mem_append.mpr (.inl hu)), k.st⟩
  rcases k.cl u k1 k2 with z | ⟨z, y⟩ | z
  · rcases List.mem_append.mp z with z | z
    · exact .inl z
    · exact .inr (.inl ⟨List.mem_singleton.mp z, by simp⟩)
  · exact .inr (.inr (by rw [z, ← hd]; exact y))
  · exact .inr (.inr z)
theorem Bw.seen {g t : Gr.G} {h0 h : Nat → Option Nat} {c s cur x : Nat} {ws dn : List Nat} (k : Bw g t h0 h c s ws cur dn) (hx : h x ≠ none) : Bw g t h0 h c s ws cur (dn ++ [x]) := by
  refine ⟨k.old, k.new, fun u k1 k2 => ?_, k.ws, k.st⟩
  rcases k.cl u k1 k2 with z | ⟨z, y⟩ | z
  · exact .inl z
  · refine .inr (.inl ⟨z, fun y' hy => ?_⟩)
    rcases List.mem_append.mp hy with w | w
    · exact y y' w
    · rw [List.mem_singleton.mp w]; exact hx
  · exact .inr (.inr z)
theorem Bw.push {g t : Gr.G} {h0 h h' : Nat → Option Nat} {c s cur x : Nat} {ws dn : List Nat} (k : Bw g t h0 h c s ws cur dn) (hx : h x = none) (hl : x < g.length) (hr : Gr.Rc g x s) (e : ∀ y, h' y = if y = x then some c else h y) : Bw g t h0 h' c s (ws ++ [x]) cur (dn ++ [x]) := by
  have up : ∀ y i, h y = some i → h' y = some i := fun y i z => by
    rw [e, if_neg (fun w => by rw [w, hx] at z; cases z)]; exact z
  have upn : ∀ y, h y ≠ none → h' y ≠ none := fun y z w => by
    cases q : h y with
    | none => exact z q
    | some i => rw [up y i q] at w; cases w
  have h0x : h0 x = none := by
    cases q : h0 x with
    | none => rfl
    | some i => rw [k.old x i q] at hx; cases hx
  have xx : h' x = some c := by rw [e, if_pos rfl]
  refine ⟨fun u i z => up u i (k.old u i z), fun u i k1 k2 => ?_, fun u k1 k2 => ?_, fun u hu => ?_, up _ _ k.st⟩
  · by_cases z : u = x
    · subst z
      rw [xx] at k2
      exact ⟨(Option.some.inj k2).symm, hl, hr⟩
    · rw [e, if_neg z] at k2
      exact k.new u i k1 k2
  · by_cases z : u = x
    · exact .inl (by rw [z]; simp)
    · rw [e, if_neg z] at k2
      rcases k.cl u k1 k2 with w | ⟨w, y⟩ | w
      · exact .inl (List.mem_append.mpr (.inl w))
      · refine .inr (.inl ⟨w, fun y' hy => ?_⟩)
        rcases List.mem_append.mp hy with v | v
        · exact upn _ (y y' v)
        · rw [List.mem_singleton.mp v, xx]; simp
      · exact .inr (.inr fun y hy => upn _ (w y hy))
  · rcases List.mem_append.mp hu with z | z
    · exact ⟨(k.ws u z).1, up _ _ (k.ws u z).2⟩
    · rw [List.mem_singleton.mp z]; exact ⟨h0x, xx⟩
theorem Bw.fin {g t : Gr.G} {h0 h : Nat → Option Nat} {c s d : Nat} {dn : List Nat} (ok : Gr.Ok g) (rv : Gr.Rev g t) (C : Gr.Cmp g h0 c) (hsl : s < g.length) (k : Bw g t h0 h c s [] d dn) (hd : dn = Gr.row t d) : ∀ u, u < g.length → Gr.Rc g u s → h0 u = none → h u = some c := by
  intro u hu r
  revert hu
  induction r with
  | refl u => intro _ _; exact k.st
  | @step u v w e r ih =>
    intro hu h0u
    have hv := ok u v e
    cases q : h0 v with
    | some i =>
      obtain ⟨j, hj, _⟩ := C.ed u v i e hu q
      rw [hj] at h0u
      cases h0u
    | none =>
      have hvc := ih hsl k hv q
      have e2 : Gr.E t v u := (rv.2 u v).mpr ⟨e, hu, hv⟩
      have : h u ≠ none := by
        rcases k.cl v q hvc with z | ⟨z, y⟩ | z
        · cases z
        · subst z; subst hd; exact y u e2
        · exact z u e2
      cases q2 : h u with
      | none => exact absurd q2 this
      | some i => rw [(k.new u i h0u q2).1]
theorem Gr.Cmp.done {g : Gr.G} {hs : List (Option Nat)} {c : Nat} (C : Gr.Cmp g (hof hs) c) (hl : hs.length = g.length) (all : ∀ u, u < g.length → hof hs u ≠ none) : ∃ h : List Nat, hs = h.map some ∧ Gr.Comps g h c := by
  have hex : ∃ h : List Nat, hs = h.map some := by
    have key : ∀ l : List (Option Nat), (∀ o ∈ l, o ≠ none) → ∃ h : List Nat, l = h.map some := by
      intro l
      induction l with
      | nil => intro _; exact ⟨[], rfl⟩
      | cons o l ih =>
        intro hh
        obtain ⟨h, e⟩ := ih fun o' ho => hh o' (List.mem_cons_of_mem _ ho)
        cases o with
        | none => exact absurd rfl (hh none List.mem_cons_self)
        | some i => exact ⟨i :: h, by rw [e]; rfl⟩
    refine key hs fun o ho e => ?_
    obtain ⟨u, hu⟩ := List.mem_iff_getElem?.mp ho
    refine all u (by rw [← hl]; exact lt_of_get hu) ?_
    rw [hof_some hu, e]
  obtain ⟨h, rfl⟩ := hex
  have hg : ∀ {u i : Nat}, h[u]? = some i → hof (h.map some) u = some i := fun {u i} e => by
    unfold hof
    rw [List.getElem?_map, e]; rfl
  have hg' : ∀ {u i : Nat}, hof (h.map some) u = some i → h[u]? = some i := fun {u i} e => by
    unfold hof at e
    rw [List.getElem?_map] at e
    cases q : h[u]? with
    | none => rw [q] at e; cases e
    | some j => rw [q] at e; exact e
  rw [List.length_map] at hl
  refine ⟨h, rfl, hl, fun i hi => ?_, fun u v i j e1 e2 => C.eq u v i j (hg e1) (hg e2), fun u v i j e e1 e2 => ?_, fun i hi => ?_⟩
  · obtain ⟨u, hu⟩ := List.mem_iff_getElem?.mp hi
    exact (C.lt u i (hg hu)).1
  · obtain ⟨i', h1, h2⟩ := C.ed u v j e (by rw [← hl]; exact lt_of_get e1) (hg e2)
    rw [hg e1] at h1
    obtain rfl := Option.some.inj h1
    exact h2
  · obtain ⟨u, hu⟩ := C.us i hi
    exact List.mem_of_getElem? (hg' hu)
theorem rev_split {l : List Nat} {i s : Nat} (h : l.reverse[i]? = some s) : ∃ A B, l = A ++ s :: B ∧ ∀ b ∈ B, b ∈ l.reverse.take i := by
  have hl := lt_of_get h
  have e : l.reverse = l.reverse.take i ++ s :: l.reverse.drop (i + 1) := by
    conv => lhs; rw [← List.take_append_drop i l.reverse]
    congr 1
    exact List.drop_eq_getElem?_toList_append.trans (by rw [h]; rfl)
  refine ⟨(l.reverse.drop (i + 1)).reverse, (l.reverse.take i).reverse, ?_, fun b hb => List.mem_reverse.mp hb⟩
  have := congrArg List.reverse e
  rw [List.reverse_reverse] at this
  exact this.trans (by simp)
def spComp : Sp := fun vs H Q _ => ∃ (r : Addr) (g : Gr.G), vs = [.ref r] ∧ GrL H r g ∧ Gr.Ok g ∧ Small g ∧
  ∀ (H' : Hp) (y : Addr) (h : List Nat) (c : Nat), Same H H' → H y = none → H' y = some (.lst (h.map VN)) → Gr.Comps g h c → Q (.ref y) H'
def CmI (r y M W X : Addr) (g t : Gr.G) (h0 : Nat → Option Nat) (xo : HO) (c s : Nat) (H : Hp) (m : Nat) (σ : L2.St) (H' : Hp) : Prop := ∃ (hs : List (Option Nat)) (ws : List Nat) (d : Nat) (v6 : Option V), m = nn hs + ws.length ∧ σ = [some (.ref r), some (.ref y), some (.ref M), some (VN c), some (VN s), some (.ref W), v6] ∧ Same H H' ∧ H' M = some (.lst (hs.map hv)) ∧ H' W = some (.lst (ws.map VN)) ∧ H' X = some xo ∧ hs.length = g.length ∧ nn hs + ws.length ≤ g.length ∧ Bw g t h0 (hof hs) c s ws d (Gr.row t d)
theorem cal_comp (T : Txt K mg cA0 PA0 cA1 PA1) : C8.Cal P w K mg base 2 "components" spComp [] := by
  have C_reversed_graph : C8.Cal P w K mg base 1 "reversed_graph" spRevL [] := cal_revL T
  have C_finishing_order : C8.Cal P w K mg base 1 "finishing_order" spFin [] := cal_fin T
  obtain ⟨f, fd, F, hm, hb⟩ := T.h_components
  refine ⟨f, fd, _, [], F.ok sc_components (fun vs H Q E h => ?_) (fun cdv A outer s H vs Q E hr h => ?_), hm, F.kp, hb, .nil⟩
  · obtain ⟨r, g, rfl, _⟩ := h
    rfl
  · obtain ⟨r, g, rfl, hG, ok, hsm, q⟩ := h
    refine ⟨_, (pss_cons
      (ps_set (i := 1) sc_components.nd rfl (Or.inl rfl) (C8.pe_c C_reversed_graph hr (by decide) (by rfl) (pa_cons (pv 0) pa_nil)))
      (pss_cons
      (ps_set (i := 2) sc_components.nd rfl (Or.inl rfl) (pe_op op_rep (pe_lst (pa_cons (pe_un un_neg pe_int) pa_nil)) (pe_callB (call_lenK (K := K) rfl) (by rfl) T.z_len PySem.boot_len (pa_cons (pv 0) pa_nil))))
      (pss_cons
      (ps_set (i := 3) sc_components.nd rfl (Or.inl rfl) pe_int)
      (pss_cons
      (ps_for PassesOwn.never rfl (pi_list (pe_revLK (K := K) rfl (C8.pe_c C_finishing_order hr (by decide) (by rfl) (pa_cons (pv 0) pa_nil)))) (pg_name (i := 4) sc_components.nd rfl (.inl rfl)) (pss_cons
      (ps_if (pt_cmpR op_ge (pe_ix (ix_listK (K := K) rfl) (pv 2) (pv 4) (fun _ _ => rfl)) pe_int (nomark _)) (pss_one
      ps_continue) pss_nil)
      (pss_cons
      (ps_asg (pv 3) (pg_sub (pv 2) (pv 4) set_list))
      (pss_cons
      (ps_set (i := 5) sc_components.nd rfl (Or.inl rfl) (pe_lst (pa_cons (pv 4) pa_nil)))
      (C8.pss_cut
      (ps_while PassesOwn.never (pt_cmpR op_gt (pe_callB (call_lenK (K := K) rfl) (by rfl) T.z_len PySem.boot_len (pa_cons (pv 5) pa_nil)) pe_int (nomark _)) (pss_one
      (ps_for PassesOwn.never rfl (pi_list (pe_ix (ix_listK (K := K) rfl) (pv 1) (pe_bm0 PySem.F.plainAttrs_list PySem.F.slot_list_pop PySem.F.type_list_pop mt_pop (pv 5)) (fun _ _ => rfl))) (pg_name (i := 6) sc_components.nd rfl (.inl rfl)) (pss_one
      (ps_if (pt_cmpR op_lt (pe_ix (ix_listK (K := K) rfl) (pv 2) (pv 6) (fun _ _ => rfl)) pe_int (nomark _)) (pss_cons
      (ps_asg (pv 3) (pg_sub (pv 2) (pv 6) set_list))
      (pss_one
      (ps_expr (pe_bm PySem.F.plainAttrs_list PySem.F.slot_list_append PySem.F.type_list_append mt_append (pv 5) (pa_cons (pv 6) pa_nil))))) pss_nil)))))
      (pss_one
      (ps_aug (i := 3) sc_components.nd rfl (.inl rfl) pe_int ip_add)))))))
      (pss_one
      (ps_ret (pv 2))))))), ?_⟩
    have hn := hsm.1
    refine ⟨_, rfl, r, g, rfl, hG, ok, hsm, fun H1 y t s1 ny hT hrev => ?_⟩
    obtain ⟨as, hr0, hal, ha⟩ := id hG
    obtain ⟨bs, ey, hbl, hbr⟩ := id hT
    refine ⟨_, rfl, by show 1 ≤ sizeLine; decide, fun l nl => ?_⟩
    generalize hX : upd H1 l _ = H2; obtain ⟨sH2, el⟩ := nw nl hX; clear hX
    have s2 := s1.trans sH2
    refine ⟨_, rfl, r, _, rfl, .inl (.of (s2 _ _ hr0)), l, _, _, rfl, rfl, el, by omega, by rw [List.length_map]; omega, ?_, fun M nM => ?_⟩
    · rw [List.length_map, hal, Int.toNat_natCast]
      show 1 * g.length ≤ 16777216
      omega
    rw [List.length_map, hal, Int.toNat_natCast, show (List.replicate g.length [V.int (-1)]).flatten = (List.replicate g.length (none : Option Nat)).map hv by simp [hv]]
    have nM1 := sH2.free nM
    generalize hX : upd H2 M _ = H3; obtain ⟨sH3, eM⟩ := nw nM hX; clear hX
    have s3 := sH2.trans sH3
    refine ⟨_, rfl, r, g, rfl, hG.same (s1.trans s3), ok, by omega, fun H4 o ord s4 no eo hfin => ?_⟩
    have nMo : o ≠ M := fun z => by rw [z, eM] at no; cases no
    refine ⟨o, _, rfl, .of eo, fun X nX => ?_⟩
    generalize hX : upd H4 X _ = H5; obtain ⟨sH5, eX⟩ := nw nX hX; clear hX
    have s5 := (s3.trans s4).trans sH5
    have nX0 := (s3.trans s4).free nX
    have eM5 := sH5 _ _ (s4 _ _ eM)
    have nXM : X ≠ M := fun z => by rw [z, s4 _ _ eM] at nX; cases nX
    rw [show (ord.map VN).reverse = ord.reverse.map VN by rw [List.map_reverse]] at eX
    clear eM sH5 s4 sH3 s3 sH2 eo
    refine ⟨X, rfl, ⟨_, .of eX⟩, ?_⟩
    refine for_list (K := K) (a := X) (xs := ord.reverse.map VN) (fun i σ H' => ∃ (hs : List (Option Nat)) (c : Nat) (v4 v5 v6 : Option V), σ = [some (.ref r), some (.ref y), some (.ref M), some (VN c), v4, v5, v6] ∧ Same H1 H' ∧ H' M = some (.lst (hs.map hv)) ∧ H' X = some (.lst (ord.reverse.map VN)) ∧ hs.length = g.length ∧ Gr.Cmp g (hof hs) c ∧ ∀ b ∈ ord.reverse.take i, hof hs b ≠ none)
      ⟨_, 0, _, _, _, rfl, s5, eM5, eX, List.length_replicate, ?_, by simp⟩ (fun i σ H' _ ⟨_, _, _, _, _, _, _, _, z, _⟩ => .of z) ?_ ?_
    · rw [show hof (List.replicate g.length (none : Option Nat)) = fun _ => none from by
        funext u
        unfold hof
        rw [List.getElem?_replicate]
        split <;> rfl]
      exact Gr.Cmp.nil g
    · clear s5 eM5 eX
      rintro i v σ H6 hi ⟨hs, c, v4, v5, v6, rfl, s6, eM, eX, hl, hC, hbs⟩
      obtain ⟨st, hst, rfl⟩ := nats_get hi
      obtain ⟨A, B, eAB, hB⟩ := rev_split hst
      have hsl : st < g.length := (hfin.all st).mp (List.mem_reverse.mp (List.mem_of_getElem? hst))
      have hso : hs[st]? = some hs[st] := List.getElem?_eq_getElem (by rw [hl]; exact hsl)
      have hof_st := hof_some hso
      generalize hs[st] = ho at hso hof_st
      refine ⟨_, rfl, _, rfl, M, _, _, hv ho, rfl, rfl, .of eM, atN hso, _, _, rfl, rfl, _, rfl, ?_⟩
      cases ho with
      | some j =>
        refine iteB_t (decide_eq_true (Int.natCast_nonneg j)) ⟨hs, c, _, _, _, rfl, s6, eM, eX, hl, hC, fun b hb => ?_⟩
        rw [take_succ' hst] at hb
        rcases List.mem_append.mp hb with z | z
        · exact hbs b z
        · rw [List.mem_singleton.mp z, hof_st]; simp
      | none =>
        refine iteB_f rfl ?_
        refine ⟨_, rfl, _, rfl, _, rfl, M, _, _, st, rfl, rfl, eM, ixN_at (by rw [List.length_map, hl]; exact hsl), ?_⟩
        rw [show (hs.map hv).set st (VN c) = (hs.set st (some c)).map hv by rw [List.map_set]; rfl]
        generalize hX : upd H6 M _ = H7; have tH7 := mwt eM hX; clear eM; obtain ⟨sH7, eM, kH7⟩ := mw s6 nM1 hX; clear hX
        refine ⟨_, rfl, by show 1 ≤ sizeLine; decide, fun W nW => ?_⟩
        have eX7 := (kH7 X nXM).trans eX
        have nWM : W ≠ M := fun z => by rw [z, eM] at nW; cases nW
        have nWX : W ≠ X := fun z => by rw [z, eX7] at nW; cases nW
        have nW1 := sH7.free nW
        generalize hX : upd H7 W _ = H8; obtain ⟨sH8, eW⟩ := nw nW hX; clear hX
        have s8 := sH7.trans sH8
        have hB' : ∀ b ∈ B, hof hs b ≠ none := fun b hb => hbs b (hB b hb)
        rw [eAB] at hfin
        refine ⟨fun σ H' => ∃ (hs' : List (Option Nat)) (d : Nat) (v6 : Option V), σ = [some (.ref r), some (.ref y), some (.ref M), some (VN c), some (VN st), some (.ref W), v6] ∧ Same H1 H' ∧ H' M = some (.lst (hs'.map hv)) ∧ H' X = some (.lst (ord.reverse.map VN)) ∧ hs'.length = g.length ∧ Bw g t (hof hs) (hof hs') c st [] d (Gr.row t d), ?_, ?_⟩
        · refine ⟨CmI r y M W X g t (hof hs) (.lst (ord.reverse.map VN)) c st H1, ⟨_, hs.set st (some c), [st], g.length, _, rfl, rfl, s8, sH8 _ _ eM, eW, sH8 _ _ eX7, by rw [List.length_set]; exact hl, by rw [← hl, List.length_singleton, nn_set hso]; exact nn_le hs, ?_⟩, ?_⟩
          · exact Bw.start hof_st hsl fun x => hof_set (by rw [hl]; exact hsl) x
          rintro m σ H9 ⟨hs', ws, d, v6, rfl, rfl, s9, eM, eW, eX, hl', hbd, hW⟩
          refine ⟨_, rfl, W, _, rfl, .inl (.of eW), _, _, rfl, rfl, _, rfl, ite2 (fun cc => ?_) (fun cc => ?_)⟩
          · obtain ⟨ws', w0, rfl⟩ : ∃ ws' x, ws = ws' ++ [x] := by
              rcases List.eq_nil_or_concat ws with rfl | ⟨a, b, rfl⟩
              · exact absurd cc (by decide)
              · exact ⟨a, b, List.concat_eq_append⟩
            have hw0 := hW.ws w0 (by simp)
            have hw0l := (hW.new w0 c hw0.1 hw0.2).2.1
            have hw0r := (hW.new w0 c hw0.1 hw0.2).2.2
            obtain ⟨a, hrb⟩ : ∃ a, bs[w0]? = some a := ⟨_, List.getElem?_eq_getElem (by rw [hbl, hrev.1]; exact hw0l)⟩
            have hrow := hbr w0 _ hrb
            rw [List.length_append, List.length_singleton] at hbd
            refine ⟨CmI r y M W X g t (hof hs) (.lst (ord.reverse.map VN)) c st H1 (nn hs' + ws'.length), fun σ' H'' z => ⟨_, by rw [List.length_append, List.length_singleton]; omega, z⟩, ?_⟩
            refine ⟨_, rfl, _, rfl, .inl ⟨rfl, _, .of eW⟩, W, _, VN w0, rfl, rfl, eW, by simp, ?_⟩
            rw [show ((ws' ++ [w0]).map VN).dropLast = ws'.map VN by simp]
            generalize hX : upd H9 W _ = H10; have tH10 := mwt eW hX; clear eW; obtain ⟨sH10, eW, kH10⟩ := mw s9 nW1 hX; clear hX
            have eM10 := (kH10 M nWM.symm).trans eM
            have eX10 := (kH10 X nWX.symm).trans eX
            refine ⟨y, _, _, .ref a, rfl, rfl, .of (sH10 _ _ ey), atN hrb, a, rfl, ⟨_, .of (sH10 _ _ hrow)⟩, ?_⟩
            refine for_list (K := K) (a := a) (xs := (Gr.row t w0).map VN) (fun j σ H' => ∃ (hs2 : List (Option Nat)) (ws2 : List Nat) (v6 : Option V), σ = [some (.ref r), some (.ref y), some (.ref M), some (VN c), some (VN st), some (.ref W), v6] ∧ Same H1 H' ∧ H' M = some (.lst (hs2.map hv)) ∧ H' W = some (.lst (ws2.map VN)) ∧ H' X = some (.lst (ord.reverse.map VN)) ∧ hs2.length = g.length ∧ nn hs2 + ws2.length = nn hs' + ws'.length ∧ Bw g t (hof hs) (hof hs2) c st ws2 w0 ((Gr.row t w0).take j))
              ⟨hs', ws', _, rfl, sH10, eM10, eW, eX10, hl', rfl, hW.pop rfl⟩ (fun j σ H' _ ⟨_, _, _, _, z, _⟩ => .of (z _ _ hrow)) ?_ ?_
            · clear sH10 eM10 eW eX10 hl' hW eM eX
              rintro j v σ H11 hj ⟨hs2, ws2, v6, rfl, s11, eM, eW, eX, hl2, hnn, hW⟩
              obtain ⟨x, hx, rfl⟩ := nats_get hj
              have hE : Gr.E t w0 x := List.mem_of_getElem? hx
              have hxg := (hrev.2 x w0).mp hE
              have hxo : hs2[x]? = some hs2[x] := List.getElem?_eq_getElem (by rw [hl2]; exact hxg.2.1)
              generalize hs2[x] = ho at hxo
              refine ⟨_, rfl, _, rfl, M, _, _, hv ho, rfl, rfl, .of eM, atN hxo, _, _, rfl, rfl, _, rfl, ?_⟩
              cases ho with
              | some i' =>
                refine iteB_f (decide_eq_false (by show ¬ ((i' : Int) < 0); omega)) ⟨hs2, ws2, _, rfl, s11, eM, eW, eX, hl2, hnn, ?_⟩
                rw [take_succ' hx]
                exact hW.seen (by rw [hof_some hxo]; simp)
              | none =>
                refine iteB_t (decide_eq_true (by show ((-1 : Int) < 0); decide)) ?_
                refine ⟨_, rfl, _, rfl, _, rfl, M, _, _, x, rfl, rfl, eM, ixN_at (by rw [List.length_map, hl2]; exact hxg.2.1), ?_⟩
                rw [show (hs2.map hv).set x (VN c) = (hs2.set x (some c)).map hv by rw [List.map_set]; rfl]
                generalize hX : upd H11 M _ = H12; have tH12 := mwt eM hX; clear eM; obtain ⟨sH12, eM, kH12⟩ := mw s11 nM1 hX; clear hX
                have eW12 := (kH12 W nWM).trans eW
                have hns := nn_set (c := c) hxo
                refine ⟨_, rfl, .inl ⟨rfl, _, .of eW12⟩, _, rfl, W, _, _, rfl, rfl, eW12, by rw [List.length_map]; exact Nat.lt_of_le_of_lt (show ws2.length ≤ 1000000 by omega) (by decide), ?_⟩
                generalize hX : upd H12 W _ = H13; have tH13 := mwt eW12 hX; clear eW12; obtain ⟨sH13, eW, kH13⟩ := mw sH12 nW1 hX; clear hX
                refine ⟨hs2.set x (some c), ws2 ++ [x], _, rfl, sH13, (kH13 M nWM.symm).trans eM, by rw [eW, List.map_append]; rfl, (kH13 X nWX.symm).trans ((kH12 X nXM).trans eX), by rw [List.length_set]; exact hl2, by rw [List.length_append, List.length_singleton]; omega, ?_⟩
                rw [take_succ' hx]
                exact hW.push (hof_some hxo) hxg.2.1 (.step hxg.1 hw0r) fun y => hof_set (by rw [hl2]; exact hxg.2.1) y
            · rintro σ H11 ⟨hs2, ws2, v6, rfl, s11, eM, eW, eX, hl2, hnn, hW⟩
              rw [List.length_map, List.take_length] at hW
              exact ⟨hs2, ws2, w0, _, hnn.symm, rfl, s11, eM, eW, eX, hl2, by omega, hW⟩
          · have cc : ws = [] := by
              cases ws with
              | nil => rfl
              | cons x l => exact absurd (decide_eq_true (by simp)) cc
            subst cc
            exact ⟨hs', d, _, rfl, s9, eM, eX, hl', hW⟩
        · rintro σ H9 ⟨hs', d, v6, rfl, s9, eM, eX, hl', hW⟩
          refine ⟨_, rfl, _, _, rfl, rfl, ?_⟩
          refine ⟨hs', c + 1, _, _, _, rfl, s9, eM, eX, hl', hC.more ok hfin hB' hof_st hW.old hW.new (hW.fin ok hrev hC hsl rfl), fun b hb => ?_⟩
          rw [take_succ' hst] at hb
          rcases List.mem_append.mp hb with z | z
          · cases e : hof hs b with
            | none => exact absurd e (hbs b z)
            | some i' => rw [hW.old b i' e]; simp
          · rw [List.mem_singleton.mp z, hW.st]; simp
    · rintro σ H6 ⟨hs, c, v4, v5, v6, rfl, s6, eM, eX, hl, hC, hbs⟩
      obtain ⟨h, rfl, hc⟩ := Gr.Cmp.done hC hl fun u hu => hbs u (by
        rw [List.length_map, List.take_length]
        exact List.mem_reverse.mpr ((hfin.all u).mpr hu))
      refine ⟨_, rfl, q H6 M h c (s1.trans s6) (s1.free nM1) ?_ hc⟩
      rw [eM, List.map_map]
      rfl
theorem le_of_all : ∀ {c : Nat} {h : List Nat}, (∀ i, i < c → i ∈ h) → c ≤ h.length
  | 0, _, _ => Nat.zero_le _
  | c + 1, h, k => by
    have hm := k c (Nat.lt_succ_self c)
    have := le_of_all (c := c) (h := h.erase c) fun i hi => (List.mem_erase_of_ne (by omega)).mpr (k i (by omega))
    rw [List.length_erase_of_mem hm] at this
    have := List.length_pos_of_mem hm
    omega
def CyS (g : Gr.G) (h : List Nat) (i j x : Nat) : Prop := ∃ a b, ((a < i ∧ Gr.E g a b) ∨ (a = i ∧ b ∈ (Gr.row g i).take j)) ∧ h[a]? = some x ∧ h[b]? = some x
def spCyc : Sp := fun vs H Q _ => ∃ (r : Addr) (g : Gr.G), vs = [.ref r] ∧ GrL H r g ∧ Gr.Ok g ∧ Small g ∧
  ∀ (H' : Hp) (y : Addr) (cs : List Bool), Same H H' → H y = none → H' y = some (.lst (cs.map V.bl)) → Fl g.length (Gr.Cyc g) cs → Q (.ref y) H'
theorem cal_cyc (T : Txt K mg cA0 PA0 cA1 PA1) : C8.Cal P w K mg base 3 "on_cycles" spCyc [] := by
  have C_components : C8.Cal P w K mg base 2 "components" spComp [] := cal_comp T
  obtain ⟨f, fd, F, hm, hb⟩ := T.h_on_cycles
  refine ⟨f, fd, _, [], F.ok sc_on_cycles (fun vs H Q E h => ?_) (fun cdv A outer s H vs Q E hr h => ?_), hm, F.kp, hb, .nil⟩
  · obtain ⟨r, g, rfl, _⟩ := h
    rfl
  · obtain ⟨r, g, rfl, hG, ok, hsm, q⟩ := h
    refine ⟨_, (pss_cons
      (ps_set (i := 1) sc_on_cycles.nd rfl (Or.inl rfl) (C8.pe_c C_components hr (by decide) (by rfl) (pa_cons (pv 0) pa_nil)))
      (pss_cons
      (ps_set (i := 2) sc_on_cycles.nd rfl (Or.inr rfl) (pe_op op_rep (pe_lst (pa_cons pe_bl pa_nil)) (pe_callB (call_lenK (K := K) rfl) (by rfl) T.z_len PySem.boot_len (pa_cons (pv 0) pa_nil))))
      (pss_cons
      (ps_for PassesOwn.never rfl (pi_enum (by rfl) T.z_enumerate (pa_cons (pv 0) pa_nil)) (pg_tup (by rfl) (pgs_cons (pg_name (i := 3) sc_on_cycles.nd rfl (.inl rfl)) (pgs_cons (pg_name (i := 4) sc_on_cycles.nd rfl (.inl rfl)) pgs_nil))) (pss_one
      (ps_for PassesOwn.never rfl (pi_list (pv 4)) (pg_name (i := 5) sc_on_cycles.nd rfl (.inl rfl)) (pss_one
      (ps_if (pt_cmpR op_eq (pe_ix (ix_listK (K := K) rfl) (pv 1) (pv 5) (fun _ _ => rfl)) (pe_ix (ix_listK (K := K) rfl) (pv 1) (pv 3) (fun _ _ => rfl)) (nomark _)) (pss_one
      (ps_asg pe_bl (pg_sub (pv 2) (pe_ix (ix_listK (K := K) rfl) (pv 1) (pv 3) (fun _ _ => rfl)) set_list))) pss_nil)))))
      (pss_one
      (ps_ret (pe_lc (own := [("home", 6)]) (g := gName 6) (tt := tYes) rfl sc_on_cycles.nd (pi_list (pv 1)) (blkOk_by (N := N_on_cycles) (sc := defScope s_on_cycles) (by decide +kernel)) (fun _ _ _ _ _ => (pg_name (i := 6) sc_on_cycles.nd rfl (Or.inl rfl))) (fun _ _ _ _ _ => pts_nil) (fun _ _ _ _ _ => (pe_ix (ix_listK (K := K) rfl) (pv 2) (pv 6) (fun _ _ => rfl))))))))), ?_⟩
    have hn := hsm.1
    refine ⟨_, rfl, r, g, rfl, hG, ok, hsm, fun H1 y h c s1 ny ey hC => ?_⟩
    obtain ⟨as, hr0, hal, ha⟩ := id hG
    have hcn : c ≤ g.length := by rw [← hC.len]; exact le_of_all hC.us
    refine ⟨by show 1 ≤ sizeLine; decide, fun l nl => ?_⟩
    generalize hX : upd H1 l _ = H2; obtain ⟨sH2, el⟩ := nw nl hX; clear hX
    have s2 := s1.trans sH2
    refine ⟨_, rfl, r, _, rfl, .inl (.of (s2 _ _ hr0)), l, _, _, rfl, rfl, el, by omega, by rw [List.length_map]; omega, ?_, fun M nM => ?_⟩
    · rw [List.length_map, hal, Int.toNat_natCast]
      show 1 * g.length ≤ 16777216
      omega
    rw [List.length_map, hal, Int.toNat_natCast, show (List.replicate g.length [V.bl false]).flatten = (List.replicate g.length false).map V.bl by simp]
    have nM1 := sH2.free nM
    generalize hX : upd H2 M _ = H3; obtain ⟨sH3, eM⟩ := nw nM hX; clear hX
    have s3 := sH2.trans sH3
    refine ⟨_, rfl, r, _, rfl, .of ((s1.trans s3) _ _ hr0), ?_⟩
    refine for_it (walk_enum (K := K) (a := r) (xs := as.map V.ref)) (fun i σ H' => ∃ (v3 v4 v5 v6 : Option V) (fs : List Bool), σ = [some (.ref r), some (.ref y), some (.ref M), v3, v4, v5, v6] ∧ Same H1 H' ∧ H' M = some (.lst (fs.map V.bl)) ∧ Fl g.length (CyS g h i 0) fs)
      ⟨none, none, none, none, _, rfl, s3, eM, (Fl.rep _).cong fun x => ⟨fun z => ?_, fun z => z.elim⟩⟩ (fun i σ H' _ ⟨_, _, _, _, _, _, z, _⟩ => .of ((s1.trans z) _ _ hr0)) ?_ ?_
    · obtain ⟨a, b, z, _⟩ := z
      rcases z with ⟨z, _⟩ | ⟨_, z⟩
      · exact absurd z (Nat.not_lt_zero a)
      · simp at z
    · clear s3 eM
      rintro i v σ H4 H5 hi ⟨v3, v4, v5, v6, fs, rfl, s4, eM, hfl⟩ ⟨p, xi, v', rfl, np, rfl, hx, hy⟩
      obtain rfl := Option.some.inj hx
      obtain ⟨a, hia, rfl⟩ := refsg hy
      have hil : i < g.length := by rw [← hal]; exact lt_of_get hia
      have hra := ha i a hia
      generalize hX : upd H4 p _ = H5; obtain ⟨sH5, ep⟩ := nw np hX; clear hX
      have s5 := s4.trans sH5
      have eM5 := sH5 _ _ eM
      refine ⟨p, _, rfl, .of ep, rfl, _, _, rfl, _, _, rfl, rfl, ?_⟩
      refine ⟨_, rfl, a, rfl, ⟨_, .of ((s1.trans s5) _ _ hra)⟩, for_list (K := K) (a := a) (xs := (Gr.row g i).map VN) (fun j σ H' => ∃ (v5 v6 : Option V) (fs : List Bool), σ = [some (.ref r), some (.ref y), some (.ref M), some (VN i), some (.ref a), v5, v6] ∧ Same H1 H' ∧ H' M = some (.lst (fs.map V.bl)) ∧ Fl g.length (CyS g h i j) fs)
        ⟨v5, v6, fs, rfl, s5, eM5, hfl⟩ (fun j σ H' _ ⟨_, _, _, _, z, _⟩ => .of ((s1.trans z) _ _ hra)) ?_ ?_⟩
      · clear s5 eM5 hfl eM
        rintro j v σ H6 hj ⟨v5, v6, fs, rfl, s6, eM, hfl⟩
        obtain ⟨x, hx, rfl⟩ := nats_get hj
        have hxl := ok i x (List.mem_of_getElem? hx)
        obtain ⟨hi', ehi⟩ : ∃ z, h[i]? = some z := ⟨_, List.getElem?_eq_getElem (by rw [hC.len]; exact hil)⟩
        obtain ⟨hx', ehx⟩ : ∃ z, h[x]? = some z := ⟨_, List.getElem?_eq_getElem (by rw [hC.len]; exact hxl)⟩
        have hic := hC.lt hi' (List.mem_of_getElem? ehi)
        have ey6 := s6 _ _ ey
        have hstep : ∀ z, CyS g h i (j + 1) z ↔ ((hx' = hi' ∧ z = hi') ∨ CyS g h i j z) := fun z => by
          unfold CyS
          rw [take_succ' hx]
          constructor
          · rintro ⟨a, b, k, ka, kb⟩
            rcases k with k | ⟨rfl, k⟩
            · exact .inr ⟨a, b, .inl k, ka, kb⟩
            · rcases List.mem_append.mp k with k | k
              · exact .inr ⟨a, b, .inr ⟨rfl, k⟩, ka, kb⟩
              · rw [List.mem_singleton.mp k, ehx] at kb
                rw [ehi] at ka
                exact .inl ⟨(Option.some.inj kb).trans (Option.some.inj ka).symm, (Option.some.inj ka).symm⟩
          · rintro (⟨k1, k2⟩ | ⟨a, b, k, ka, kb⟩)
            · exact ⟨i, x, .inr ⟨rfl, by simp⟩, by rw [ehi, k2], by rw [ehx, k2, k1]⟩
            · refine ⟨a, b, ?_, ka, kb⟩
              rcases k with k | ⟨rfl, k⟩
              · exact .inl k
              · exact .inr ⟨rfl, by simp [k]⟩
        refine ⟨_, rfl, _, rfl, y, _, _, VN hx', rfl, rfl, .of ey6, atN ehx, _, rfl, _, rfl, y, _, _, VN hi', rfl, rfl, .of ey6, atN ehi, rfl, _, rfl, ite_eq (fun cc => ?_) (fun cc => ?_)⟩
        · refine ⟨_, rfl, _, rfl, _, rfl, y, _, _, VN hi', rfl, rfl, .of ey6, atN ehi, M, _, _, hi', rfl, rfl, eM, ixN_at (by rw [List.length_map, hfl.1]; omega), ?_⟩
          rw [show (fs.map V.bl).set hi' (.bl true) = (fs.set hi' true).map V.bl by rw [List.map_set]]
          generalize hX : upd H6 M _ = H7; have tH7 := mwt eM hX; clear eM; obtain ⟨sH7, eM, kH7⟩ := mw s6 nM1 hX; clear hX
          refine ⟨_, _, _, rfl, sH7, eM, hfl.set fun z => ?_⟩
          rw [hstep]
          have : hx' = hi' := by omega
          simp [this]
        · refine ⟨_, _, _, rfl, s6, eM, hfl.cong fun z => ?_⟩
          rw [hstep]
          have : hx' ≠ hi' := fun w => cc (by rw [w])
          simp [this]
      · rintro σ H6 ⟨v5, v6, fs, rfl, s6, eM, hfl⟩
        rw [List.length_map] at hfl
        refine ⟨_, _, _, _, fs, rfl, s6, eM, hfl.cong fun z => ?_⟩
        unfold CyS
        rw [List.take_length]
        simp only [List.take_zero, List.not_mem_nil, and_false, or_false]
        constructor
        · rintro ⟨a, b, ⟨k1, k2⟩, k⟩
          refine ⟨a, b, ?_, k⟩
          rcases Nat.lt_succ_iff_lt_or_eq.mp k1 with z | rfl
          · exact .inl ⟨z, k2⟩
          · exact .inr ⟨rfl, k2⟩
        · rintro ⟨a, b, k1, k⟩
          refine ⟨a, b, ?_, k⟩
          rcases k1 with ⟨k1, k2⟩ | ⟨rfl, k2⟩
          · exact ⟨by omega, k2⟩
          · exact ⟨by omega, k2⟩
    · rintro σ H4 ⟨v3, v4, v5, v6, fs, rfl, s4, eM, hfl⟩
      rw [List.length_map, hal] at hfl
      refine ⟨_, rfl, y, rfl, ⟨_, .of (s4 _ _ ey)⟩, fun D nD => lc_list (K := K) (a := y) (xs := h.map VN) (fun i H' => ∃ cs : List Bool, Same H1 H' ∧ H' M = some (.lst (fs.map V.bl)) ∧ H' D = some (.lst (cs.map V.bl)) ∧ cs.length = i ∧ ∀ (u : Nat) (b : Bool), cs[u]? = some b → (b = true ↔ Gr.Cyc g u))
        ⟨[], s4.trans (same_new nD), same_new nD _ _ eM, upd_same, rfl, by simp⟩ (fun i H' _ ⟨_, z, _⟩ => .of (z _ _ ey)) ?_ ?_⟩
      · rintro i v H5 hi ⟨cs, s5, eM5, eD, cl, hcs⟩
        obtain ⟨x, hx, rfl⟩ := nats_get hi
        have hxc := hC.lt x (List.mem_of_getElem? hx)
        obtain ⟨b, hb1, hb2⟩ := hfl.get (u := x) (by omega)
        have nD1 := s4.free nD
        have nDM : D ≠ M := fun z => by rw [z, eM] at nD; cases nD
        have hil := lt_of_get hx
        rw [hC.len] at hil
        refine ⟨rfl, _, rfl, _, rfl, M, _, _, .bl b, rfl, rfl, .of eM5, atN hb1, _, eD, by rw [List.length_map]; exact Nat.lt_of_le_of_lt (show cs.length ≤ 1000000 by omega) (by decide), cs ++ [b], ?_, ?_, by rw [upd_same, List.map_append]; rfl, by rw [List.length_append, cl]; rfl, fun u b' hu => ?_⟩
        · exact fun z o e => by rw [upd_ne (ne_of_none e nD1)]; exact s5 _ _ e
        · rw [upd_ne nDM.symm]; exact eM5
        · rcases snocg hu with ⟨_, k⟩ | ⟨k1, k2⟩
          · exact hcs u b' k
          · rw [k2, hb2, k1, cl, Gr.cyc_iff ok hC hx]
            unfold CyS
            simp only [List.take_zero, List.not_mem_nil, and_false, or_false]
            constructor
            · rintro ⟨a, b, ⟨_, e⟩, k⟩
              exact ⟨a, b, e, k⟩
            · rintro ⟨a, b, e, ka, kb⟩
              exact ⟨a, b, ⟨by rw [← hC.len]; exact lt_of_get ka, e⟩, ka, kb⟩
      · rintro H5 ⟨cs, s5, eM5, eD, cl, hcs⟩
        rw [List.length_map, hC.len] at cl
        exact q H5 D cs (s1.trans s5) (s1.free (s4.free nD)) eD ⟨cl, hcs⟩
def nfl : List Bool → Nat
  | [] => 0
  | false :: l => nfl l + 1
  | true :: l => nfl l
theorem nfl_le : ∀ fs : List Bool, nfl fs ≤ fs.length
  | [] => Nat.le_refl 0
  | false :: l => Nat.succ_le_succ (nfl_le l)
  | true :: l => Nat.le_succ_of_le (nfl_le l)
theorem nfl_set : ∀ {fs : List Bool} {u : Nat}, fs[u]? = some false → nfl (fs.set u true) + 1 = nfl fs
  | [], _, h => by simp at h
  | false :: l, 0, _ => rfl
  | true :: l, 0, h => by simp at h
  | false :: l, u + 1, h => by
    have := nfl_set (fs := l) (u := u) (by simpa using h)
    show nfl (l.set u true) + 1 + 1 = nfl l + 1
    omega
  | true :: l, u + 1, h => nfl_set (fs := l) (u := u) (by simpa using h)
/-- found so far: S; still to be followed: ws; of cur the first dn have been followed -/
structure Rw (g : Gr.G) (st : List Nat) (S : Nat → Prop) (ws : List Nat) (cur : Nat) (dn : List Nat) : Prop where
  inn : ∀ u ∈ st, S u
  rc : ∀ u, S u → u < g.length ∧ ∃ s ∈ st, Gr.Rc g s u
  cl : ∀ u, S u → u ∈ ws ∨ (u = cur ∧ ∀ x ∈ dn, S x) ∨ ∀ x ∈ Gr.row g u, S x
  ws : ∀ u ∈ ws, S u
theorem Rw.pop {g : Gr.G} {st : List Nat} {S : Nat → Prop} {ws dn : List Nat} {w d : Nat} (k : Rw g st S (ws ++ [w]) d dn) (hd : dn = Gr.row g d) : Rw g st S ws w [] := by
  refine ⟨k.inn, k.rc, fun u hu => ?_, fun u hu => k.ws u (List.mem_append.mpr (.inl hu))⟩
  rcases k.cl u hu with z | ⟨z, y⟩ | z
  · rcases List.mem_append.mp z with z | z
    · exact .inl z
    · exact .inr (.inl ⟨List.mem_singleton.mp z, by simp⟩)
  · exact .inr (.inr (by rw [z, ← hd]; exact y))
  · exact .inr (.inr z)
theorem Rw.seen {g : Gr.G} {st : List Nat} {S : Nat → Prop} {ws dn : List Nat} {cur x : Nat} (k : Rw g st S ws cur dn) (hx : S x) : Rw g st S ws cur (dn ++ [x]) := by
  refine ⟨k.inn, k.rc, fun u hu => ?_, k.ws⟩
  rcases k.cl u hu with z | ⟨z, y⟩ | z
  · exact .inl z
  · refine .inr (.inl ⟨z, fun y' hy => ?_⟩)
    rcases List.mem_append.mp hy with w | w
    · exact y y' w
    · rw [List.mem_singleton.mp w]; exact hx
  · exact .inr (.inr z)
theorem Rw.push {g : Gr.G} {st : List Nat} {S S' : Nat → Prop} {ws dn : List Nat} {cur x : Nat} (k : Rw g st S ws cur dn) (hc : S cur) (hx : Gr.E g cur x) (hl : x < g.length) (e : ∀ y, S' y ↔ (y = x ∨ S y)) : Rw g st S' (ws ++ [x]) cur (dn ++ [x]) := by
  have up : ∀ y, S y → S' y := fun y h => (e y).mpr (.inr h)
  refine ⟨fun u hu => up u (k.inn u hu), fun u hu => ?_, fun u hu => ?_, fun u hu => ?_⟩
  · rcases (e u).mp hu with rfl | z
    · obtain ⟨_, s, hs, r⟩ := k.rc cur hc
      exact ⟨hl, s, hs, r.snoc hx⟩
    · exact k.rc u z
  · rcases (e u).mp hu with rfl | z
    · exact .inl (by simp)
    · rcases k.cl u z with w | ⟨w, y⟩ | w
      · exact .inl (List.mem_append.mpr (.inl w))
      · refine .inr (.inl ⟨w, fun y' hy => ?_⟩)
        rcases List.mem_append.mp hy with v | v
        · exact up _ (y y' v)
        · rw [List.mem_singleton.mp v]; exact (e x).mpr (.inl rfl)
      · exact .inr (.inr fun y hy => up _ (w y hy))
  · rcases List.mem_append.mp hu with z | z
    · exact up u (k.ws u z)
    · rw [List.mem_singleton.mp z]; exact (e x).mpr (.inl rfl)
theorem Rw.fin {g : Gr.G} {st : List Nat} {S : Nat → Prop} {dn : List Nat} {d : Nat} (k : Rw g st S [] d dn) (hd : dn = Gr.row g d) (u : Nat) : S u ↔ ∃ s ∈ st, Gr.Rc g s u := by
  refine ⟨fun h => (k.rc u h).2, fun ⟨s, hs, r⟩ => Gr.rc_sets (S := S) (fun a b ha e => ?_) r (k.inn s hs)⟩
  rcases k.cl a ha with z | ⟨z, y⟩ | z
  · cases z
  · subst z; subst hd; exact y b e
  · exact z b e
def spRch : Sp := fun vs H Q _ => ∃ (r a : Addr) (g : Gr.G) (st : List Nat), vs = [.ref r, .ref a] ∧ GrL H r g ∧ Gr.Ok g ∧ g.length ≤ 100000 ∧ (H a = some (.lst (st.map VN)) ∨ H a = some (.tup (st.map VN))) ∧ (∀ s ∈ st, s < g.length) ∧ st.length ≤ 1000000 ∧
  ∀ (H' : Hp) (y : Addr) (fs : List Bool), Same H H' → H y = none → H' y = some (.lst (fs.map V.bl)) → Fl g.length (fun u => ∃ s ∈ st, Gr.Rc g s u) fs → Q (.ref y) H'
theorem cal_rch (T : Txt K mg cA0 PA0 cA1 PA1) : C8.Cal P w K mg base 1 "reachable" spRch [] := by
  obtain ⟨f, fd, F, hm, hb⟩ := T.h_reachable
  refine ⟨f, fd, _, [], F.ok sc_reachable (fun vs H Q E h => ?_) (fun cdv A outer s H vs Q E hr h => ?_), hm, F.kp, hb, .nil⟩
  · obtain ⟨r, a, g, st, rfl, _⟩ := h
    rfl
  · obtain ⟨r, a, g, st, rfl, hG, ok, hn, hst, hsl, hsz, q⟩ := h
    refine ⟨_, (pss_cons
      (ps_set (i := 2) sc_reachable.nd rfl (Or.inl rfl) (pe_op op_rep (pe_lst (pa_cons pe_bl pa_nil)) (pe_callB (call_lenK (K := K) rfl) (by rfl) T.z_len PySem.boot_len (pa_cons (pv 0) pa_nil))))
      (pss_cons
      (ps_set (i := 3) sc_reachable.nd rfl (Or.inl rfl) (pe_callTy (call_list_ofK (K := K) rfl) (by rfl) T.z_list (by decide +kernel) (pa_cons (pv 1) pa_nil)))
      (pss_cons
      (ps_for PassesOwn.never rfl (pi_seq (K := K) rfl (pv 1)) (pg_name (i := 4) sc_reachable.nd rfl (.inl rfl)) (pss_one
      (ps_asg pe_bl (pg_sub (pv 2) (pv 4) set_list))))
      (C8.pss_cut
      (ps_while PassesOwn.never (pt_cmpR op_gt (pe_callB (call_lenK (K := K) rfl) (by rfl) T.z_len PySem.boot_len (pa_cons (pv 3) pa_nil)) pe_int (nomark _)) (pss_one
      (ps_for PassesOwn.never rfl (pi_list (pe_ix (ix_listK (K := K) rfl) (pv 0) (pe_bm0 PySem.F.plainAttrs_list PySem.F.slot_list_pop PySem.F.type_list_pop mt_pop (pv 3)) (fun _ _ => rfl))) (pg_name (i := 5) sc_reachable.nd rfl (.inl rfl)) (pss_one
      (ps_if (pt_not (pt_val (pe_ix (ix_listK (K := K) rfl) (pv 2) (pv 5) (fun _ _ => rfl)))) (pss_cons
      (ps_asg pe_bl (pg_sub (pv 2) (pv 5) set_list))
      (pss_one
      (ps_expr (pe_bm PySem.F.plainAttrs_list PySem.F.slot_list_append PySem.F.type_list_append mt_append (pv 3) (pa_cons (pv 5) pa_nil))))) pss_nil)))))
      (pss_one
      (ps_ret (pv 2))))))), ?_⟩
    obtain ⟨as, hr0, hal, ha⟩ := id hG
    refine ⟨by show 1 ≤ sizeLine; decide, fun l nl => ?_⟩
    generalize hX : upd H l _ = H1; obtain ⟨sH1, el⟩ := nw nl hX; clear hX
    refine ⟨_, rfl, r, _, rfl, .inl (.of (sH1 _ _ hr0)), l, _, _, rfl, rfl, el, by omega, by rw [List.length_map]; omega, ?_, fun M nM => ?_⟩
    · rw [List.length_map, hal, Int.toNat_natCast]
      show 1 * g.length ≤ 16777216
      omega
    rw [List.length_map, hal, Int.toNat_natCast, show (List.replicate g.length [V.bl false]).flatten = (List.replicate g.length false).map V.bl by simp]
    have nM0 := sH1.free nM
    generalize hX : upd H1 M _ = H2; obtain ⟨sH2, eM⟩ := nw nM hX; clear hX
    have s2 := sH1.trans sH2
    have hst2 : SeqV H2 a (st.map VN) := by
      rcases hst with h | h
      · exact .inl (s2 _ _ h)
      · exact .inr (s2 _ _ h)
    refine ⟨_, rfl, a, _, rfl, hst2.sq, fun W nW => ?_⟩
    have nW0 := s2.free nW
    have nWM : W ≠ M := fun z => by rw [z, eM] at nW; cases nW
    generalize hX : upd H2 W _ = H3; obtain ⟨sH3, eW⟩ := nw nW hX; clear hX
    have s3 := s2.trans sH3
    have eM3 := sH3 _ _ eM
    have hst3 : SeqV H3 a (st.map VN) := by
      rcases hst with h | h
      · exact .inl (s3 _ _ h)
      · exact .inr (s3 _ _ h)
    clear eM
    -- the starts
    have hstH : SeqV H a (st.map VN) := hst
    refine for_sqB (H0 := H) (i := 1) (a := a) (xs := st.map VN) rfl hstH (fun i σ H' => ∃ (fs : List Bool) (v4 v5 : Option V), σ = [some (.ref r), some (.ref a), some (.ref M), some (.ref W), v4, v5] ∧ Same H H' ∧ H' M = some (.lst (fs.map V.bl)) ∧ H' W = some (.lst (st.map VN)) ∧ Fl g.length (fun u => u ∈ st.take i) fs)
      ⟨_, _, _, rfl, s3, eM3, eW, (Fl.rep _).cong (by simp)⟩ (fun i σ H' ⟨_, _, _, _, z, _⟩ => z) ?_ ?_
    · clear s3 eM3 eW hst2 hst3
      rintro i x σ H4 hx ⟨fs, v4, v5, rfl, s4, eM, eW, hfl⟩
      obtain ⟨u, hu, rfl⟩ := nats_get hx
      have hul := hsl u (List.mem_of_getElem? hu)
      refine ⟨_, rfl, _, rfl, M, _, _, u, rfl, rfl, eM, ixN_at (by rw [List.length_map, hfl.1]; exact hul), ?_⟩
      rw [show (fs.map V.bl).set u (.bl true) = (fs.set u true).map V.bl by rw [List.map_set]]
      generalize hX : upd H4 M _ = H5; have tH5 := mwt eM hX; clear eM; obtain ⟨sH5, eM, kH5⟩ := mw s4 nM0 hX; clear hX
      refine ⟨fs.set u true, _, _, rfl, sH5, eM, (kH5 W nWM).trans eW, hfl.set fun y => ?_⟩
      rw [take_succ' hu]
      simp [or_comm]
    clear s3 eM3 eW hst2 hst3
    rintro σ H4 ⟨fs, v4, v5, rfl, s4, eM, eW, hfl⟩
    rw [List.length_map, List.take_length] at hfl
    refine ⟨fun σ H' => ∃ (fs : List Bool) (v4 v5 : Option V), σ = [some (.ref r), some (.ref a), some (.ref M), some (.ref W), v4, v5] ∧ Same H H' ∧ H' M = some (.lst (fs.map V.bl)) ∧ Fl g.length (fun u => ∃ s ∈ st, Gr.Rc g s u) fs, ?_, ?_⟩
    · refine ⟨fun m σ H' => ∃ (fs : List Bool) (ws : List Nat) (S : Nat → Prop) (d : Nat) (v4 v5 : Option V), m = nfl fs + ws.length ∧ σ = [some (.ref r), some (.ref a), some (.ref M), some (.ref W), v4, v5] ∧ Same H H' ∧ H' M = some (.lst (fs.map V.bl)) ∧ H' W = some (.lst (ws.map VN)) ∧ Fl g.length S fs ∧ nfl fs + ws.length ≤ 1100000 ∧ Rw g st S ws d (Gr.row g d), ⟨_, fs, st, _, 0, _, _, rfl, rfl, s4, eM, eW, hfl, ?_, ⟨fun u hu => hu, fun u hu => ⟨hsl u hu, u, hu, .refl u⟩, fun u hu => .inl hu, fun u hu => hu⟩⟩, ?_⟩
      · have := nfl_le fs
        rw [hfl.1] at this
        omega
      clear s4 eM eW hfl fs
      rintro m σ H5 ⟨fs, ws, S, d, v4, v5, rfl, rfl, s5, eM, eW, hfl, hbd, hR⟩
      refine ⟨_, rfl, W, _, rfl, .inl (.of eW), _, _, rfl, rfl, _, rfl, ite2 (fun cc => ?_) (fun cc => ?_)⟩
      · obtain ⟨ws', w0, rfl⟩ : ∃ ws' x, ws = ws' ++ [x] := by
          rcases List.eq_nil_or_concat ws with rfl | ⟨a, b, rfl⟩
          · exact absurd cc (by decide)
          · exact ⟨a, b, List.concat_eq_append⟩
        have hw0 := hR.ws w0 (by simp)
        have hw0l := (hR.rc w0 hw0).1
        obtain ⟨b, hrb⟩ : ∃ a, as[w0]? = some a := ⟨_, List.getElem?_eq_getElem (by rw [hal]; exact hw0l)⟩
        have hrow := ha w0 _ hrb
        rw [List.length_append, List.length_singleton] at hbd
        refine ⟨_, fun σ' H'' z => ⟨nfl fs + ws'.length, by rw [List.length_append, List.length_singleton]; omega, z⟩, ?_⟩
        refine ⟨_, rfl, _, rfl, .inl ⟨rfl, _, .of eW⟩, W, _, VN w0, rfl, rfl, eW, by simp, ?_⟩
        rw [show ((ws' ++ [w0]).map VN).dropLast = ws'.map VN by simp]
        generalize hX : upd H5 W _ = H6; have tH6 := mwt eW hX; clear eW; obtain ⟨sH6, eW, kH6⟩ := mw s5 nW0 hX; clear hX
        have eM6 := (kH6 M nWM.symm).trans eM
        refine ⟨r, _, _, .ref b, rfl, rfl, .of (sH6 _ _ hr0), atN hrb, b, rfl, ⟨_, .of (sH6 _ _ hrow)⟩, ?_⟩
        refine for_list (K := K) (a := b) (xs := (Gr.row g w0).map VN) (fun j σ H' => ∃ (fs2 : List Bool) (ws2 : List Nat) (S2 : Nat → Prop) (v4 v5 : Option V), σ = [some (.ref r), some (.ref a), some (.ref M), some (.ref W), v4, v5] ∧ Same H H' ∧ H' M = some (.lst (fs2.map V.bl)) ∧ H' W = some (.lst (ws2.map VN)) ∧ Fl g.length S2 fs2 ∧ nfl fs2 + ws2.length = nfl fs + ws'.length ∧ S2 w0 ∧ Rw g st S2 ws2 w0 ((Gr.row g w0).take j))
          ⟨fs, ws', S, _, _, rfl, sH6, eM6, eW, hfl, rfl, hw0, hR.pop rfl⟩ (fun j σ H' _ ⟨_, _, _, _, _, _, z, _⟩ => .of (z _ _ hrow)) ?_ ?_
        · clear sH6 eM6 eW hfl hR hw0 eM
          rintro j v σ H7 hj ⟨fs, ws2, S2, v4, v5, rfl, s7, eM, eW, hfl, hnn, hw0, hR⟩
          obtain ⟨x, hx, rfl⟩ := nats_get hj
          have hxl := ok w0 x (List.mem_of_getElem? hx)
          obtain ⟨b2, hb1, hb2⟩ := hfl.get hxl
          refine ⟨_, rfl, _, rfl, M, _, _, .bl b2, rfl, rfl, .of eM, atN hb1, b2, rfl, ?_⟩
          cases b2 with
          | true =>
            refine iteB_f (c := !true) rfl ⟨fs, ws2, S2, _, _, rfl, s7, eM, eW, hfl, hnn, hw0, ?_⟩
            rw [take_succ' hx]
            exact hR.seen (hb2.mp rfl)
          | false =>
            refine iteB_t (c := !false) rfl ?_
            refine ⟨_, rfl, _, rfl, M, _, _, x, rfl, rfl, eM, ixN_at (by rw [List.length_map, hfl.1]; exact hxl), ?_⟩
            rw [show (fs.map V.bl).set x (.bl true) = (fs.set x true).map V.bl by rw [List.map_set]]
            generalize hX : upd H7 M _ = H8; have tH8 := mwt eM hX; clear eM; obtain ⟨sH8, eM, kH8⟩ := mw s7 nM0 hX; clear hX
            have eW8 := (kH8 W nWM).trans eW
            have hns := nfl_set hb1
            refine ⟨_, rfl, .inl ⟨rfl, _, .of eW8⟩, _, rfl, W, _, _, rfl, rfl, eW8, by rw [List.length_map]; exact Nat.lt_of_le_of_lt (show ws2.length ≤ 1100000 by omega) (by decide), ?_⟩
            generalize hX : upd H8 W _ = H9; have tH9 := mwt eW8 hX; clear eW8; obtain ⟨sH9, eW, kH9⟩ := mw sH8 nW0 hX; clear hX
            refine ⟨fs.set x true, ws2 ++ [x], fun y => y = x ∨ S2 y, _, _, rfl, sH9, (kH9 M nWM.symm).trans eM, by rw [eW, List.map_append]; rfl, hfl.set fun y => Iff.rfl, by rw [List.length_append, List.length_singleton]; omega, .inr hw0, ?_⟩
            rw [take_succ' hx]
            exact hR.push hw0 (List.mem_of_getElem? hx) hxl fun y => Iff.rfl
        · rintro σ H7 ⟨fs, ws2, S2, v4, v5, rfl, s7, eM, eW, hfl, hnn, hw0, hR⟩
          rw [List.length_map, List.take_length] at hR
          exact ⟨fs, ws2, S2, w0, _, _, hnn.symm, rfl, s7, eM, eW, hfl, by omega, hR⟩
      · have cc : ws = [] := by
          cases ws with
          | nil => rfl
          | cons x l => exact absurd (decide_eq_true (by simp)) cc
        subst cc
        exact ⟨fs, _, _, rfl, s5, eM, hfl.cong fun u => (hR.fin rfl u).symm⟩
    · rintro σ H5 ⟨fs, v4, v5, rfl, s5, eM, hfl⟩
      exact ⟨_, rfl, q H5 M fs s5 nM0 eM hfl⟩
theorem cal_take (T : Txt K mg cA0 PA0 cA1 PA1) : C8.Cal P w K mg base 1 "_law_take" spTake [] := by
  obtain ⟨f, fd, F, hm, hb⟩ := T.h_law_take
  refine ⟨f, fd, _, [], F.ok sc_law_take (fun vs H Q E h => ?_) (fun cdv A outer s H vs Q E hr h => ?_), hm, F.kp, hb, .nil⟩
  · obtain ⟨d, n, rfl, _⟩ := h
    rfl
  · obtain ⟨d, n, rfl, ⟨ds, hd⟩, hn, q⟩ := h
    refine ⟨_, (pss_cons
      (ps_if (pt_cmpR op_eq (pe_callB (call_lenK (K := K) rfl) (by rfl) T.z_len PySem.boot_len (pa_cons (pv 0) pa_nil)) pe_int (nomark _)) (pss_one
      (ps_ret pe_int)) pss_nil)
      (pss_one
      (ps_ret (pe_op op_mod (pe_callTy call_int1 (by rfl) T.z_int (by decide +kernel) (pa_cons (pe_bm0 PySem.F.plainAttrs_list PySem.F.slot_list_pop PySem.F.type_list_pop mt_pop (pv 0)) pa_nil)) (pv 1))))), ?_⟩
    walk_at "bx"
    refine ite2 (fun e => ?_) (fun e => ?_)
    · have q0 := q 0 ds (Int.le_refl 0) hn
      rw [upd_self hd] at q0
      exact q0
    · have hne : ds ≠ [] := fun z => e (by rw [z]; rfl)
      refine ⟨_, rfl, .inl ⟨rfl, _, SqL.of hd⟩, d, _, .int (ds.getLast hne), rfl, rfl, hd, ?_, ?_⟩
      · rw [List.length_map, List.getElem?_map, ← List.getLast?_eq_getElem?, List.getLast?_eq_getLast hne]
        rfl
      · walk_at "bx"
        rw [← List.map_dropLast]
        exact q _ _ (Int.emod_nonneg _ (by omega)) (Int.emod_lt_of_pos _ hn)
theorem cal_isint (T : Txt K mg cA0 PA0 cA1 PA1) : C8.Cal P w K mg base 1 "_law_is_integer" spIsInt [] := by
  obtain ⟨f, fd, F, hm, hb⟩ := T.h_law_is_integer
  refine ⟨f, fd, _, [], F.ok sc_law_is_integer (fun vs H Q E h => ?_) (fun cdv A outer s H vs Q E hr h => ?_), hm, F.kp, hb, .nil⟩
  · obtain ⟨i, rfl, _⟩ := h
    rfl
  · obtain ⟨i, rfl, q⟩ := h
    refine ⟨_, (pss_one
      (ps_ret (pe_and (pe_callB (call_isiK' (K := K) rfl) (by rfl) T.z_isinstance (by decide +kernel) (pa_cons (pv 0) (pa_cons (pe_bltn (v := .ty "int") (by rfl) T.z_int (by decide +kernel) rfl) pa_nil))) (pe_one (pe_not (pe_callB (call_isiK' (K := K) rfl) (by rfl) T.z_isinstance (by decide +kernel) (pa_cons (pv 0) (pa_cons (pe_bltn (v := .ty "bool") (by rfl) T.z_bool (by decide +kernel) rfl) pa_nil)))))))), ?_⟩
    refine ⟨_, rfl, _, _, _, _, true, rfl, .ty "int", .base (.int i), kit_ty (by decide +kernel), true, rfl, iteT ?_⟩
    exact ⟨_, rfl, _, _, _, _, false, rfl, .ty "bool", .base (.int i), kit_ty (by decide +kernel), false, rfl, q⟩
theorem cal_draws (T : Txt K mg cA0 PA0 cA1 PA1) : C8.Cal P w K mg base 1 "_law_draws" (spDraws K) [] := by
  obtain ⟨f, fd, F, hm, hb⟩ := T.h_law_draws
  refine ⟨f, fd, _, [], F.ok sc_law_draws (fun vs H Q E h => ?_) (fun cdv A outer s H vs Q E hr h => ?_), hm, F.kp, hb, .nil⟩
  · obtain ⟨a, ns, c, rfl, _⟩ := h
    rfl
  · obtain ⟨a, ns, n, rfl, hS, hn, q⟩ := h
    refine ⟨_, (pss_cons
      (ps_set (i := 2) sc_law_draws.nd rfl (Or.inl rfl) (pe_callTy (call_list_ofK (K := K) rfl) (by rfl) T.z_list (by decide +kernel) (pa_cons (pv 0) pa_nil)))
      (C8.pss_cut
      (ps_if (pt_cmpR op_eq (pe_callB (call_lenK (K := K) rfl) (by rfl) T.z_len PySem.boot_len (pa_cons (pv 2) pa_nil)) pe_int (nomark _)) (pss_one
      (ps_set (i := 2) sc_law_draws.nd rfl (Or.inl rfl) (pe_lst (pa_cons pe_int pa_nil)))) pss_nil)
      (pss_cons
      (ps_set (i := 3) sc_law_draws.nd rfl (Or.inl rfl) (pe_lst pa_nil))
      (pss_cons
      (ps_set (i := 4) sc_law_draws.nd rfl (Or.inl rfl) pe_int)
      (pss_cons
      (ps_for PassesOwn.never rfl (pi_range1 (by rfl) T.z_range (pa_cons (pv 1) pa_nil)) (pg_name (i := 5) sc_law_draws.nd rfl (.inl rfl)) (pss_cons
      (ps_set (i := 6) sc_law_draws.nd rfl (Or.inl rfl) (pe_op op_mod (pv 5) (pe_callB (call_lenK (K := K) rfl) (by rfl) T.z_len PySem.boot_len (pa_cons (pv 2) pa_nil))))
      (pss_cons
      (ps_set (i := 7) sc_law_draws.nd rfl (Or.inl rfl) (pe_ix (ix_listK (K := K) rfl) (pv 2) (pv 6) (fun _ _ => rfl)))
      (pss_cons
      (ps_set (i := 4) sc_law_draws.nd rfl (Or.inl rfl) (pe_op op_mod (pe_callTy call_int1 (by rfl) T.z_int (by decide +kernel) (pa_cons (pe_op op_add (pe_op op_add (pe_op op_add (pe_op op_mul (pv 4) pe_int) (pe_op op_mul (pe_op op_mod (pe_callTy call_int1 (by rfl) T.z_int (by decide +kernel) (pa_cons (pv 7) pa_nil)) pe_int) pe_int)) (pe_op op_mul (pv 5) pe_int)) pe_int) pa_nil)) pe_int))
      (pss_cons
      (ps_set (i := 8) sc_law_draws.nd rfl (Or.inl rfl) (pe_op op_mod (pe_callTy call_int1 (by rfl) T.z_int (by decide +kernel) (pa_cons (pe_op op_add (pe_op op_add (pe_op op_mul (pv 4) (pv 4)) (pe_op op_mul pe_int (pv 4))) (pv 5)) pa_nil)) pe_int))
      (pss_one
      (ps_if (pt_cmpR op_ge (pv 7) (pe_op op_pow pe_int pe_int) (nomark _)) (pss_cons
      (ps_expr (pe_bm PySem.F.plainAttrs_list PySem.F.slot_list_append PySem.F.type_list_append mt_append (pv 3) (pa_cons (pe_op op_mod (pe_callTy call_int1 (by rfl) T.z_int (by decide +kernel) (pa_cons (pv 7) pa_nil)) pe_int) pa_nil)))
      (pss_one
      (ps_asg (pe_op op_fdiv (pv 7) pe_int) (pg_sub (pv 2) (pv 6) set_list)))) (pss_one
      (ps_expr (pe_bm PySem.F.plainAttrs_list PySem.F.slot_list_append PySem.F.type_list_append mt_append (pv 3) (pa_cons (pe_op op_mod (pe_callTy call_int1 (by rfl) T.z_int (by decide +kernel) (pa_cons (pv 8) pa_nil)) pe_int) pa_nil)))))))))))
      (pss_cons
      (ps_expr (pe_bm0 PySem.F.plainAttrs_list PySem.F.slot_list_reverse PySem.F.type_list_reverse mt_reverse (pv 3)))
      (pss_one
      (ps_ret (pv 3))))))))), ?_⟩
    -- cells = list(script)
    refine ⟨_, rfl, a, _, rfl, .inl hS, fun l hl => ?_⟩
    -- if len(cells) == 0: cells = [7]
    refine ⟨fun σ H2 => ∃ (c : Addr) (cs : List Int), σ = [some (.ref a), some (.int n), some (.ref c), none, none, none, none, none, none] ∧ H c = none ∧ Same H H2 ∧ H2 c = some (.lst (cs.map V.int)) ∧ cs ≠ [], ?_, ?_⟩
    · have h0 : (upd H l (.lst (ns.map V.int))) l = some (.lst (ns.map V.int)) := upd_same
      walk_at "bx"
      refine ite2 (fun e => ?_) (fun e => ?_)
      · refine ⟨by show 1 ≤ sizeLine; decide, fun l2 h2 => ?_⟩
        have s1 : Same H (upd H l (.lst (ns.map V.int))) := same_new hl
        exact ⟨l2, [7], rfl, s1.free h2, s1.trans (same_new h2), upd_same, by decide⟩
      · exact ⟨l, ns, rfl, hl, same_new hl, upd_same, fun z => e (by rw [z]; rfl)⟩
    · rintro σ H2 ⟨c, cs, rfl, hc0, s2, hc, hcs⟩
      -- found = [], mixed = 12345
      refine ⟨Nat.zero_le _, fun o ho => ?_⟩
      have hco : c ≠ o := ne_of_none hc ho
      have ho0 : H o = none := s2.free ho
      -- for k in range(count)
      refine ⟨_, rfl, _, rfl, by omega, by omega, for_range (lo := 0) (n := ((n : Int)).toNat) (fun i σ H3 => ∃ (m : Int) (cs fs : List Int) (v5 v6 v7 v8 : Option V), σ = [some (.ref a), some (.int n), some (.ref c), some (.ref o), some (.int m), v5, v6, v7, v8] ∧ 0 ≤ m ∧ m < 2147483647 ∧ Same H H3 ∧ H3 c = some (.lst (cs.map V.int)) ∧ cs ≠ [] ∧ H3 o = some (.lst (fs.map V.int)) ∧ fs.length ≤ i)
        ⟨12345, cs, [], none, none, none, none, rfl, by decide, by decide, s2.trans (same_new ho), by rw [upd_ne hco]; exact hc, hcs, upd_same, Nat.le_refl _⟩ ?_ ?_⟩
      · rintro i σ H3 hi ⟨m, cs, fs, v5, v6, v7, v8, rfl, m0, m1, s3, hc, hcs, hf, hfl⟩
        have hl : 0 < cs.length := List.length_pos_iff.mpr hcs
        obtain ⟨z, hz⟩ : ∃ z, cs[i % cs.length]? = some z := ⟨_, List.getElem?_eq_getElem (Nat.mod_lt _ hl)⟩
        have ej : ((0 : Int) + (i : Int)) % (((cs.map V.int).length : Nat) : Int) = ((i % cs.length : Nat) : Int) := by
          rw [Int.zero_add, List.length_map]
          rfl
        -- j = k % len(cells)
        walk_at "bx"
        refine ⟨(show (0 : Int) < _ by rw [List.length_map]; omega), ?_⟩
        -- cell = cells[j]
        refine ⟨_, rfl, _, rfl, c, _, _, .int z, rfl, rfl, SqL.of hc, ?_, ?_⟩
        · rw [ej]
          exact atI_nat (by rw [List.getElem?_map, hz]; rfl)
        -- mixed, again
        walk_at "bx"
        have b1 : (0 : Int) ≤ z % 1000003 := Int.emod_nonneg _ (by decide)
        refine ⟨.inl ⟨?_, ?_⟩, ?_⟩
        · have := Int.emod_nonneg (m * 48271 + z % 1000003 * 69621 + (0 + (i : Int)) * 7919 + 11) (show (2147483647 : Int) ≠ 0 by decide)
          show -(2 ^ 64) < (m * 48271 + z % 1000003 * 69621 + (0 + (i : Int)) * 7919 + 11) % 2147483647
          omega
        · have := Int.emod_lt_of_pos (m * 48271 + z % 1000003 * 69621 + (0 + (i : Int)) * 7919 + 11) (show (0 : Int) < 2147483647 by decide)
          show (m * 48271 + z % 1000003 * 69621 + (0 + (i : Int)) * 7919 + 11) % 2147483647 < 2 ^ 64
          omega
        have c0 : 0 ≤ (m * 48271 + z % 1000003 * 69621 + (0 + (i : Int)) * 7919 + 11) % 2147483647 := Int.emod_nonneg _ (by decide)
        have c1 : (m * 48271 + z % 1000003 * 69621 + (0 + (i : Int)) * 7919 + 11) % 2147483647 < 2147483647 := Int.emod_lt_of_pos _ (by decide)
        walk_at "bx"
        refine ite2 (fun e => ?_) (fun e => ?_)
        · walk_at "bx"
          refine ⟨lenI (by omega), ?_⟩
          walk_at "bx"
          refine ⟨c, cs.map V.int, _, i % cs.length, rfl, rfl, by rw [upd_ne hco]; exact hc, by rw [ej]; exact ixN_at (by rw [List.length_map]; exact Nat.mod_lt _ hl), ?_⟩
          refine ⟨_, cs.set (i % cs.length) (z / 1000), fs ++ [z % 1000], _, _, _, _, rfl, c0, c1, fun b o' hb => ?_, by rw [upd_same, set_mapI], by simpa using hcs, by rw [upd_ne hco.symm, upd_same]; simp, by simp; omega⟩
          rw [upd_ne (fun z => by rw [z, hc0] at hb; cases hb), upd_ne (fun z => by rw [z, ho0] at hb; cases hb)]
          exact s3 _ _ hb
        · walk_at "bx"
          refine ⟨lenI (by omega), ?_⟩
          refine ⟨_, cs, fs ++ [_], _, _, _, _, rfl, c0, c1, fun b o' hb => ?_, by rw [upd_ne hco]; exact hc, hcs, by rw [upd_same, List.map_append]; rfl, by simp; omega⟩
          rw [upd_ne (fun z => by rw [z, ho0] at hb; cases hb)]
          exact s3 _ _ hb
      · rintro σ H3 ⟨m, cs, fs, v5, v6, v7, v8, rfl, m0, m1, s3, hc, hcs, hf, hfl⟩
        -- found.reverse()
        walk_at "bx"
        refine q _ o (fun b o' hb => ?_) ho0 ⟨fs.reverse, ?_⟩
        · rw [upd_ne (fun z => by rw [z, ho0] at hb; cases hb)]
          exact s3 _ _ hb
        · rw [upd_same, List.map_reverse]
theorem cal_ints (T : Txt K mg cA0 PA0 cA1 PA1) : C8.Cal P w K mg base 2 "_law_integers" spInts [] := by
  have C_law_is_integer : C8.Cal P w K mg base 1 "_law_is_integer" spIsInt [] := cal_isint T
  obtain ⟨f, fd, F, hm, hb⟩ := T.h_law_integers
  refine ⟨f, fd, _, [], F.ok sc_law_integers (fun vs H Q E h => ?_) (fun cdv A outer s H vs Q E hr h => ?_), hm, F.kp, hb, .nil⟩
  · obtain ⟨a, xs, lo, hi, rfl, _⟩ := h
    rfl
  · obtain ⟨a, xs, lo, hi, rfl, ht, hx, q⟩ := h
    refine ⟨_, (pss_cons
      (ps_if (pt_not (pt_val (pe_callB (call_isiK' (K := K) rfl) (by rfl) T.z_isinstance (by decide +kernel) (pa_cons (pv 0) (pa_cons (pe_bltn (v := .ty "tuple") (by rfl) T.z_tuple (by decide +kernel) rfl) pa_nil))))) (pss_one
      (ps_ret pe_bl)) pss_nil)
      (pss_cons
      (ps_for PassesOwn.never rfl (pi_tup (pv 0)) (pg_name (i := 3) sc_law_integers.nd rfl (.inl rfl)) (pss_one
      (ps_if (PW.pt (pw_or (pt_not (pt_val (C8.pe_c C_law_is_integer hr (by decide) (by rfl) (pa_cons (pv 3) pa_nil)))) (pw_or (pt_cmpR op_lt (pv 3) (pv 1) (nomark _)) (pw_or1 (pt_cmpR op_ge (pv 3) (pv 2) (nomark _)))))) (pss_one
      (ps_ret pe_bl)) pss_nil)))
      (pss_one
      (ps_ret pe_bl)))), ?_⟩
    refine ⟨_, rfl, _, _, _, _, true, rfl, .ty "tuple", .base (.tup ht), kit_ty (by decide +kernel), true, rfl, ?_⟩
    refine ⟨_, rfl, a, rfl, ⟨_, .of ht⟩, for_tup (K := K) (a := a) (xs := xs.map V.int) (fun i σ H' => ∃ v : Option V, σ = [some (.ref a), some (.int lo), some (.int hi), v] ∧ H' = H) ⟨none, rfl, rfl⟩ (fun i σ H' _ ⟨_, _, e⟩ => by rw [e]; exact .of ht) ?_ ?_⟩
    · rintro i y σ H' hi ⟨v, rfl, rfl⟩
      obtain ⟨z, hz, rfl⟩ : ∃ z, xs[i]? = some z ∧ y = V.int z := by
        rw [List.getElem?_map] at hi
        cases e : xs[i]? with
        | none => rw [e] at hi; cases hi
        | some z => rw [e] at hi; exact ⟨z, rfl, (Option.some.inj hi).symm⟩
      obtain ⟨c1, c2⟩ := hx z (List.mem_of_getElem? hz)
      refine ⟨_, rfl, z, rfl, true, rfl, ?_⟩
      refine ⟨_, rfl, _, rfl, _, _, rfl, rfl, _, rfl, ite_lt (fun c => absurd c1 (by omega)) (fun _ => ?_)⟩
      refine ⟨_, rfl, _, rfl, _, _, rfl, rfl, _, rfl, ?_⟩
      refine ite2 (fun c => absurd (of_decide_eq_true c) (by omega)) (fun _ => ?_)
      exact ⟨_, rfl, rfl⟩
    · rintro σ H' ⟨v, rfl, rfl⟩
      exact q
theorem cal_lasso (T : Txt K mg cA0 PA0 cA1 PA1) : C8.Cal P w K mg base 2 "_law_lasso" spLasso [] := by
  have C_law_take : C8.Cal P w K mg base 1 "_law_take" spTake [] := cal_take T
  obtain ⟨f, fd, F, hm, hb⟩ := T.h_law_lasso
  refine ⟨f, fd, _, [], F.ok sc_law_lasso (fun vs H Q E h => ?_) (fun cdv A outer s H vs Q E hr h => ?_), hm, F.kp, hb, .nil⟩
  · obtain ⟨d, n, m, rfl, _⟩ := h
    rfl
  · obtain ⟨d, n, m, rfl, hd, hn, hm0, hm1, q⟩ := h
    refine ⟨_, (pss_cons
      (ps_setLc (i := 3) (own := [("k", 5)]) (g := gName 5) (tt := tYes) rfl sc_law_lasso.nd rfl rfl (sw_true rfl rfl rfl (by decide +kernel)) (pi_range1 (by rfl) T.z_range (pa_cons (C8.pe_c C_law_take hr (by decide) (by rfl) (pa_cons (pv 0) (pa_cons (pe_op op_add (pv 2) pe_int) pa_nil))) pa_nil)) (blkOk_by (N := N_law_lasso) (sc := defScope s_law_lasso) (by decide +kernel)) (fun _ _ _ _ _ => (pg_name (i := 5) sc_law_lasso.nd rfl (Or.inl rfl))) (fun _ _ _ _ _ => pts_nil) (fun _ _ _ _ _ => (C8.pe_c C_law_take hr (by decide) (by rfl) (pa_cons (pv 0) (pa_cons (pv 1) pa_nil)))))
      (pss_cons
      (ps_setLc (i := 4) (own := [("k", 5)]) (g := gName 5) (tt := tYes) rfl sc_law_lasso.nd rfl rfl (sw_true rfl rfl rfl (by decide +kernel)) (pi_range1 (by rfl) T.z_range (pa_cons (pe_op op_add pe_int (C8.pe_c C_law_take hr (by decide) (by rfl) (pa_cons (pv 0) (pa_cons (pv 2) pa_nil)))) pa_nil)) (blkOk_by (N := N_law_lasso) (sc := defScope s_law_lasso) (by decide +kernel)) (fun _ _ _ _ _ => (pg_name (i := 5) sc_law_lasso.nd rfl (Or.inl rfl))) (fun _ _ _ _ _ => pts_nil) (fun _ _ _ _ _ => (C8.pe_c C_law_take hr (by decide) (by rfl) (pa_cons (pv 0) (pa_cons (pv 1) pa_nil)))))
      (pss_one
      (ps_ret (pe_tup (pa_cons (pe_callTy (call_tuple_ofK (K := K) rfl) (by rfl) T.z_tuple (by decide +kernel) (pa_cons (pv 3) pa_nil)) (pa_cons (pe_callTy (call_tuple_ofK (K := K) rfl) (by rfl) T.z_tuple (by decide +kernel) (pa_cons (pv 4) pa_nil)) pa_nil))))))), ?_⟩
    -- head
    refine ⟨_, rfl, _, rfl, _, _, rfl, rfl, d, _, rfl, hd, by omega, fun r ds r0 r1 => ?_⟩
    refine ⟨_, rfl, by omega, by omega, fun D hD => ?_⟩
    have nDd : D ≠ d := fun z => by rw [z, upd_same] at hD; cases hD
    refine lc_range (lo := 0) (n := r.toNat) (fun i H' => ∃ xs : List Int, Kp d H H' ∧ Drw H' d ∧ H' D = some (.lst (xs.map V.int)) ∧ xs.length = i ∧ ∀ x ∈ xs, 0 ≤ x ∧ x < n)
      ⟨[], Kp.own.trans (Kp.new hD), Drw.own.new hD, upd_same, rfl, by simp⟩ ?_ ?_
    · rintro i H1 hi ⟨xs, k1, d1, e1, el, hx⟩
      refine ⟨rfl, _, rfl, _, rfl, d, _, rfl, d1, hn, fun u us u0 u1 => ?_⟩
      refine ⟨xs.map V.int, by rw [upd_ne nDd]; exact e1, lenI (by omega), xs ++ [u], ?_, ?_, ?_, ?_, ?_⟩
      · intro b o nb hb
        have nbD : b ≠ D := fun z => by
          have h0 : (upd H d (.lst (ds.map V.int))) D = none := hD
          rw [upd_ne nDd] at h0
          rw [z, h0] at hb
          cases hb
        rw [upd_ne nbD, upd_ne nb]
        exact k1 _ _ nb hb
      · exact ⟨us, by rw [upd_ne nDd.symm, upd_same]⟩
      · rw [upd_same, List.map_append]
        rfl
      · simp [el]
      · intro x hx2
        rcases List.mem_append.mp hx2 with z | z
        · exact hx x z
        · rw [List.mem_singleton.mp z]
          exact ⟨u0, u1⟩
    · rintro H1 ⟨xs, k1, d1, e1, el, hx⟩
      have hD0 : H D = none := by
        have h0 : (upd H d (.lst (ds.map V.int))) D = none := hD
        rw [upd_ne nDd] at h0
        exact h0
      -- loop
      refine ⟨_, rfl, _, rfl, d, _, rfl, d1, by omega, fun r2 ds2 r20 r21 => ?_⟩
      refine ⟨_, _, rfl, rfl, _, rfl, by omega, by omega, fun D2 hD2 => ?_⟩
      have nD2d : D2 ≠ d := fun z => by rw [z, upd_same] at hD2; cases hD2
      have hD2' : H1 D2 = none := by rw [upd_ne nD2d] at hD2; exact hD2
      have nDD : D ≠ D2 := ne_of_none e1 hD2'
      have hD20 : H D2 = none := by
        cases e : H D2 with
        | none => rfl
        | some o => rw [k1 _ _ nD2d e] at hD2'; cases hD2'
      refine lc_range (lo := 0) (n := (1 + r2).toNat) (fun i H' => ∃ ys : List Int, Kp d H H' ∧ Drw H' d ∧ H' D = some (.lst (xs.map V.int)) ∧ H' D2 = some (.lst (ys.map V.int)) ∧ ys.length = i ∧ ∀ x ∈ ys, 0 ≤ x ∧ x < n)
        ⟨[], k1.trans (Kp.own.trans (Kp.new hD2)), Drw.own.new hD2, by rw [upd_ne nDD, upd_ne nDd]; exact e1, upd_same, rfl, by simp⟩ ?_ ?_
      · rintro i H2 hi ⟨ys, k2, d2, e2, e3, el2, hy⟩
        refine ⟨rfl, _, rfl, _, rfl, d, _, rfl, d2, hn, fun u us u0 u1 => ?_⟩
        refine ⟨ys.map V.int, by rw [upd_ne nD2d]; exact e3, lenI (by omega), ys ++ [u], ?_, ?_, ?_, ?_, ?_, ?_⟩
        · intro b o nb hb
          rw [upd_ne (fun z => by rw [z, hD20] at hb; cases hb), upd_ne nb]
          exact k2 _ _ nb hb
        · exact ⟨us, by rw [upd_ne nD2d.symm, upd_same]⟩
        · rw [upd_ne nDD, upd_ne nDd]
          exact e2
        · rw [upd_same, List.map_append]
          rfl
        · simp [el2]
        · intro x hx2
          rcases List.mem_append.mp hx2 with z | z
          · exact hy x z
          · rw [List.mem_singleton.mp z]
            exact ⟨u0, u1⟩
      · rintro H2 ⟨ys, k2, d2, e2, e3, el2, hy⟩
        -- return (tuple(head), tuple(loop))
        refine ⟨_, rfl, D, _, rfl, .inl ⟨.of e2, fun a ha => ?_⟩⟩
        have e3' : (upd H2 a (.tup (xs.map V.int))) D2 = some (.lst (ys.map V.int)) := same_new ha _ _ e3
        refine ⟨_, rfl, D2, _, rfl, .inl ⟨.of e3', fun b hb => ?_⟩⟩
        refine ⟨by show 2 ≤ sizeLine; decide, fun p hp => ?_⟩
        have nab : a ≠ b := fun z => by rw [← z, upd_same] at hb; cases hb
        have nap : a ≠ p := fun z => by rw [← z, upd_ne nab, upd_same] at hp; cases hp
        have nbp : b ≠ p := fun z => by rw [← z, upd_same] at hp; cases hp
        refine q _ p xs ys (k2.trans ((Kp.new ha).trans ((Kp.new hb).trans (Kp.new hp)))) (((d2.new ha).new hb).new hp) ⟨a, b, upd_same, by rw [upd_ne nap, upd_ne nab, upd_same], by rw [upd_ne nbp, upd_same]⟩ (by omega) (fun z => ?_) (by omega) hx hy
        rw [z] at el2
        have : (0 : Nat) = (1 + r2).toNat := el2
        omega
theorem asc_snoc {i : Nat} {xs : List Int} (h : Asc (i : Int) xs) : Asc ((i + 1 : Nat) : Int) (xs ++ [(0 : Int) + (i : Int)]) := by
  refine ⟨List.pairwise_append.mpr ⟨h.1, by simp, fun x hx y hy => ?_⟩, fun x hx => ?_⟩
  · rw [List.mem_singleton.mp hy]
    have := (h.2 x hx).2
    omega
  · rcases List.mem_append.mp hx with z | z
    · have := h.2 x z
      omega
    · rw [List.mem_singleton.mp z]
      omega
theorem asc_mono {n m : Int} {xs : List Int} (h : Asc n xs) (k : n ≤ m) : Asc m xs := ⟨h.1, fun x hx => by have := h.2 x hx; omega⟩
theorem asc_nil (n : Int) : Asc n [] := ⟨by simp, by simp⟩
def spStates : Sp := fun vs H Q _ => ∃ (a : Addr) (xs : List Int) (n : Int), vs = [.ref a, .int n] ∧ TupI H a xs ∧ Asc n xs ∧ xs.length ≤ 100000 ∧ Q (.bl true) H
theorem cal_states (T : Txt K mg cA0 PA0 cA1 PA1) : C8.Cal P w K mg base 3 "_law_states" spStates [] := by
  have C_law_integers : C8.Cal P w K mg base 2 "_law_integers" spInts [] := cal_ints T
  obtain ⟨f, fd, F, hm, hb⟩ := T.h_law_states
  refine ⟨f, fd, _, [], F.ok sc_law_states (fun vs H Q E h => ?_) (fun cdv A outer s H vs Q E hr h => ?_), hm, F.kp, hb, .nil⟩
  · obtain ⟨a, xs, n, rfl, _⟩ := h
    rfl
  · obtain ⟨a, xs, n, rfl, ht, hA, hl, q⟩ := h
    refine ⟨_, (pss_cons
      (ps_if (pt_not (pt_val (C8.pe_c C_law_integers hr (by decide) (by rfl) (pa_cons (pv 0) (pa_cons pe_int (pa_cons (pv 1) pa_nil)))))) (pss_one
      (ps_ret pe_bl)) pss_nil)
      (pss_cons
      (ps_for PassesOwn.never rfl (pi_range2 (by rfl) T.z_range (pa_cons pe_int (pa_cons (pe_callB (call_lenK (K := K) rfl) (by rfl) T.z_len PySem.boot_len (pa_cons (pv 0) pa_nil)) pa_nil))) (pg_name (i := 2) sc_law_states.nd rfl (.inl rfl)) (pss_one
      (ps_if (pt_cmpR op_ge (pe_ix (ix_tupK (K := K) rfl) (pv 0) (pe_op op_sub (pv 2) pe_int) (fun _ _ => rfl)) (pe_ix (ix_tupK (K := K) rfl) (pv 0) (pv 2) (fun _ _ => rfl)) (nomark _)) (pss_one
      (ps_ret pe_bl)) pss_nil)))
      (pss_one
      (ps_ret pe_bl)))), ?_⟩
    refine ⟨_, rfl, _, rfl, a, xs, 0, n, rfl, ht, hA.2, true, rfl, ?_⟩
    refine ⟨_, rfl, a, _, rfl, .inr (.of ht), _, _, rfl, (by rw [List.length_map]; omega), for_range (lo := 1) (n := ((((xs.map V.int).length : Nat) : Int) - 1).toNat) (fun i σ H' => ∃ v : Option V, σ = [some (.ref a), some (.int n), v] ∧ H' = H) ⟨none, rfl, rfl⟩ ?_ ?_⟩
    · rintro i σ H' hi ⟨v, rfl, rfl⟩
      rw [List.length_map] at hi
      have h1 : i < xs.length := by omega
      have h2 : i + 1 < xs.length := by omega
      have lt : lw xs i < lw xs (i + 1) := by
        have := (List.pairwise_iff_getElem.mp hA.1) i (i + 1) h1 h2 (Nat.lt_succ_self i)
        unfold lw
        rw [List.getD_eq_getElem?_getD, List.getElem?_eq_getElem h1, List.getD_eq_getElem?_getD, List.getElem?_eq_getElem h2]
        exact this
      have g1 : atI (xs.map V.int) (1 + (i : Int) - 1) = some (.int (lw xs i)) := by
        rw [show (1 : Int) + (i : Int) - 1 = ((i : Nat) : Int) by omega]
        exact atI_nat (at_map h1)
      have g2 : atI (xs.map V.int) (1 + (i : Int)) = some (.int (lw xs (i + 1))) := by
        rw [show (1 : Int) + (i : Int) = ((i + 1 : Nat) : Int) by omega]
        exact atI_nat (at_map h2)
      refine ⟨_, rfl, _, rfl, _, _, rfl, rfl, a, _, _, _, rfl, rfl, .of ht, g1, _, rfl, _, rfl, a, _, _, _, rfl, rfl, .of ht, g2, _, _, rfl, rfl, _, rfl, ite2 (fun c => ?_) (fun _ => ⟨_, rfl, rfl⟩)⟩
      have c := of_decide_eq_true c
      omega
    · rintro σ H' ⟨v, rfl, rfl⟩
      exact q
def spIsAut (C : Addr) : Sp := fun vs H Q _ => ∃ (x : Addr) (L : Int) (ini acc : List Int) (c : List (List (List Int))), vs = [.ref x, .int L] ∧ AutAt C H x L ini acc c ∧ VldB L ini acc c ∧ ini.length ≤ 1000 ∧ acc.length ≤ 1000 ∧ (∀ r ∈ c, ∀ e ∈ r, e.length ≤ 1000) ∧ Q (.bl true) H
theorem cal_isaut {C : Addr} (T : Txt K mg cA0 PA0 cA1 PA1) (PC : AutC K C) : C8.Cal P w K mg base 4 "_law_is_automaton" (spIsAut C) [] := by
  have C_law_is_integer : C8.Cal P w K mg base 1 "_law_is_integer" spIsInt [] := cal_isint T
  have C_law_states : C8.Cal P w K mg base 3 "_law_states" spStates [] := cal_states T
  obtain ⟨f, fd, F, hm, hb⟩ := T.h_law_is_automaton
  refine ⟨f, fd, _, [], F.ok sc_law_is_automaton (fun vs H Q E h => ?_) (fun cdv A outer s H vs Q E hr h => ?_), hm, F.kp, hb, .nil⟩
  · obtain ⟨x, L, ini, acc, c, rfl, _⟩ := h
    rfl
  · obtain ⟨x, L, ini, acc, cu, rfl, hP, hv, m1, m2, m3, q⟩ := h
    refine ⟨_, (pss_cons
      (ps_if (PW.pt (pw_or (pt_not (pt_val (C8.pe_c C_law_is_integer hr (by decide) (by rfl) (pa_cons (pe_fld (pv 0) rfl) pa_nil)))) (pw_or1 (pt_cmpR op_ne (pe_fld (pv 0) rfl) (pv 1) (nomark _))))) (pss_one
      (ps_ret pe_bl)) pss_nil)
      (pss_cons
      (ps_if (PW.pt (pw_or (pt_not (pt_val (pe_callB (call_isiK' (K := K) rfl) (by rfl) T.z_isinstance (by decide +kernel) (pa_cons (pe_fld (pv 0) rfl) (pa_cons (pe_bltn (v := .ty "tuple") (by rfl) T.z_tuple (by decide +kernel) rfl) pa_nil))))) (pw_or1 (pt_cmpR op_eq (pe_callB (call_lenK (K := K) rfl) (by rfl) T.z_len PySem.boot_len (pa_cons (pe_fld (pv 0) rfl) pa_nil)) pe_int (nomark _))))) (pss_one
      (ps_ret pe_bl)) pss_nil)
      (pss_cons
      (ps_set (i := 2) sc_law_is_automaton.nd rfl (Or.inl rfl) (pe_callB (call_lenK (K := K) rfl) (by rfl) T.z_len PySem.boot_len (pa_cons (pe_fld (pv 0) rfl) pa_nil)))
      (pss_cons
      (ps_if (PW.pt (pw_or (pt_not (pt_val (C8.pe_c C_law_states hr (by decide) (by rfl) (pa_cons (pe_fld (pv 0) rfl) (pa_cons (pv 2) pa_nil))))) (pw_or1 (pt_not (pt_val (C8.pe_c C_law_states hr (by decide) (by rfl) (pa_cons (pe_fld (pv 0) rfl) (pa_cons (pv 2) pa_nil)))))))) (pss_one
      (ps_ret pe_bl)) pss_nil)
      (pss_cons
      (ps_for PassesOwn.never rfl (pi_tup (pe_fld (pv 0) rfl)) (pg_name (i := 3) sc_law_is_automaton.nd rfl (.inl rfl)) (pss_cons
      (ps_if (PW.pt (pw_or (pt_not (pt_val (pe_callB (call_isiK' (K := K) rfl) (by rfl) T.z_isinstance (by decide +kernel) (pa_cons (pv 3) (pa_cons (pe_bltn (v := .ty "tuple") (by rfl) T.z_tuple (by decide +kernel) rfl) pa_nil))))) (pw_or1 (pt_cmpR op_ne (pe_callB (call_lenK (K := K) rfl) (by rfl) T.z_len PySem.boot_len (pa_cons (pv 3) pa_nil)) (pv 1) (nomark _))))) (pss_one
      (ps_ret pe_bl)) pss_nil)
      (pss_one
      (ps_for PassesOwn.never rfl (pi_tup (pv 3)) (pg_name (i := 4) sc_law_is_automaton.nd rfl (.inl rfl)) (pss_one
      (ps_if (pt_not (pt_val (C8.pe_c C_law_states hr (by decide) (by rfl) (pa_cons (pv 4) (pa_cons (pv 2) pa_nil))))) (pss_one
      (ps_ret pe_bl)) pss_nil))))))
      (pss_one
      (ps_ret pe_bl))))))), ?_⟩
    obtain ⟨dx, it, at_, rt, as, bss, e1, e2, e3, e4, e5⟩ := id hP
    have hl2 : (as.map V.ref).length = cu.length := by rw [List.length_map, (cub_len e5).1]
    have hn : 0 < cu.length := List.length_pos_iff.mpr hv.2.1
    obtain ⟨v1, v2, v3, v4, v5⟩ := id hv
    refine ⟨_, rfl, x, C, dx, _, _, rfl, e1, PC.cl, PC.nL, bf_L _ _ _ _, L, rfl, true, rfl, ?_⟩
    refine ⟨_, rfl, x, C, dx, _, _, rfl, e1, PC.cl, PC.nL, bf_L _ _ _ _, _, rfl, rfl, _, rfl, ite_ne (fun c => absurd rfl c) (fun _ => ?_)⟩
    refine ⟨_, rfl, x, C, dx, _, _, rfl, e1, PC.cl, PC.nR, bf_r _ _ _ _, _, _, _, _, true, rfl, .ty "tuple", .base (.tup e4), kit_ty (by decide +kernel), true, rfl, ?_⟩
    refine ⟨_, rfl, x, C, dx, _, _, rfl, e1, PC.cl, PC.nR, bf_r _ _ _ _, rt, _, rfl, .inr (.of e4), rfl, _, rfl, ite_eq (fun c => absurd c (by rw [hl2]; omega)) (fun _ => ?_)⟩
    refine ⟨_, rfl, x, C, dx, _, _, rfl, e1, PC.cl, PC.nR, bf_r _ _ _ _, rt, _, rfl, .inr (.of e4), ?_⟩
    rw [hl2]
    refine ⟨_, rfl, x, C, dx, _, _, rfl, e1, PC.cl, PC.nI, bf_i _ _ _ _, _, rfl, it, ini, _, rfl, e2, v3, by omega, true, rfl, ?_⟩
    refine ⟨_, rfl, x, C, dx, _, _, rfl, e1, PC.cl, PC.nA, bf_a _ _ _ _, _, rfl, at_, acc, _, rfl, e3, v4, by omega, true, rfl, ?_⟩
    refine ⟨_, rfl, x, C, dx, _, _, rfl, e1, PC.cl, PC.nR, bf_r _ _ _ _, rt, rfl, ⟨_, .of e4⟩, for_tup (K := K) (a := rt) (xs := as.map V.ref) (fun i σ H2 => ∃ v u : Option V, σ = [some (.ref x), some (.int L), some (.int cu.length), v, u] ∧ H2 = H) ⟨none, none, rfl, rfl⟩ (fun i σ H2 _ ⟨_, _, _, e⟩ => by rw [e]; exact .of e4) ?_ ?_⟩
    · rintro i y σ H2 hi ⟨v, u, rfl, rfl⟩
      obtain ⟨a, ha, rfl⟩ := refs_get hi
      obtain ⟨bs, row, hbs, hrow, hra, hR⟩ := cub_get e5 ha
      have hmem := List.mem_of_getElem? hrow
      have hbl : (bs.map V.ref).length = row.length := by rw [List.length_map, hR.len]
      obtain ⟨c1, c2⟩ := v5 row hmem
      refine ⟨_, rfl, _, _, _, _, true, rfl, .ty "tuple", .base (.tup hra), kit_ty (by decide +kernel), true, rfl, ?_⟩
      refine ⟨_, rfl, a, _, rfl, .inr (.of hra), _, rfl, rfl, _, rfl, ite_ne (fun c => absurd (by rw [hbl]; exact c1) c) (fun _ => ?_)⟩
      refine ⟨_, rfl, a, rfl, ⟨_, .of hra⟩, for_tup (K := K) (a := a) (xs := bs.map V.ref) (fun i σ H3 => ∃ u : Option V, σ = [some (.ref x), some (.int L), some (.int cu.length), some (.ref a), u] ∧ H3 = H2) ⟨u, rfl, rfl⟩ (fun i σ H3 _ ⟨_, _, e⟩ => by rw [e]; exact .of hra) ?_ ?_⟩
      · rintro j y σ H3 hj ⟨u, rfl, rfl⟩
        obtain ⟨b, hb, rfl⟩ := refs_get hj
        obtain ⟨e, he, hbe⟩ := hR.get hb
        exact ⟨_, rfl, _, rfl, b, e, _, rfl, hbe, c2 e (List.mem_of_getElem? he), by have := m3 row hmem e (List.mem_of_getElem? he); omega, true, rfl, ⟨_, rfl, rfl⟩⟩
      · rintro σ H3 ⟨u, rfl, rfl⟩
        exact ⟨_, _, rfl, rfl⟩
    · rintro σ H2 ⟨v, u, rfl, rfl⟩
      exact q
theorem lc_same {H H' : Hp} {r : Addr} {as : List Addr} {bss : List (List Addr)} {c : List (List (List Int))} (s : Same H H') (h : LC H r as bss c) : LC H' r as bss c := ⟨s _ _ h.1, cub_same s h.2⟩
theorem RowsA.drop {H : Hp} {D : Addr} {o : HO} {as : List Addr} {rs : List (List Int)} (n : D ∉ as) (h : RowsA .lst H as rs) : RowsA .lst (upd H D o) as rs := h.keep fun b _ hb e => by rw [upd_ne (fun z => n (by rw [← z]; exact hb))]; exact e
def Cpy (H H' : Hp) (r' : Addr) (as' : List Addr) (rows : List (List Int)) : Prop := Same H H' ∧ LL H' r' as' rows ∧ (∀ b ∈ as', H b = none) ∧ H r' = none ∧ r' ∉ as'
/-- one more row of a copy -/
theorem cpy_step {H H' : Hp} {D t : Addr} {bs : List Addr} {rs : List (List Int)} {row : List Int} (h : Cpy H H' D bs rs) (ht : H' t = none) : Cpy H (upd (upd H' t (.lst (row.map V.int))) D (.lst ((bs ++ [t]).map V.ref))) D (bs ++ [t]) (rs ++ [row]) := by
  obtain ⟨s1, ⟨e1, R1⟩, n1, d1, m1⟩ := h
  have nt : D ≠ t := fun z => by rw [z, ht] at e1; cases e1
  refine ⟨fun b o hb => ?_, ⟨upd_same, ?_⟩, fun b hb => ?_, d1, fun z => ?_⟩
  · rw [upd_ne (ne_of_none hb d1), upd_ne (ne_of_none (s1 _ _ hb) ht)]
    exact s1 _ _ hb
  · refine RowsA.snoc ?_ (My.RowsA.drop m1 (R1.same (same_new ht)))
    rw [upd_ne nt.symm, upd_same]
  · rcases List.mem_append.mp hb with z | z
    · exact n1 b z
    · rw [List.mem_singleton.mp z]
      exact s1.free ht
  · rcases List.mem_append.mp z with y | y
    · exact m1 y
    · exact nt (List.mem_singleton.mp y)
theorem cpy_zero {H : Hp} {D : Addr} (hD : H D = none) : Cpy H (upd H D (.lst [])) D [] [] := ⟨same_new hD, ⟨upd_same, True.intro⟩, (by simp), hD, by simp⟩
theorem hp_kp {d p : Addr} {H H' : Hp} {o : HO} (k : Kp d H H') (n : d ≠ p) (h : H p = some o) : H' p = some o := k _ _ n.symm h
theorem op_inK {X : Cx} {K : PySem.W.Frag} (h : X.K = K) : OpR X (compareOp .In) (rIn K false) := by
  subst h
  exact op_in_seq
theorem sqt_same {K : PySem.W.Frag} {H H' : Hp} {a : Addr} {xs : List V} (e : Same H H') (h : SqT K H a xs) : SqT K H' a xs := by
  rcases h with (h | ⟨o, h⟩) | h
  · exact .inl (.inl (e _ _ h))
  · exact .inl (.inr ⟨o, e _ _ h⟩)
  · exact .inr h
def ArrB (H : Hp) (a : Addr) (N : Nat) (s : Nat → Bool) : Prop := H a = some (.lst ((List.range N).map fun t => V.bl (s t)))
theorem arrb_get {N t : Nat} {s : Nat → Bool} (h : t < N) : ((List.range N).map fun t => V.bl (s t))[t]? = some (.bl (s t)) := by
  rw [List.getElem?_map, List.getElem?_range h]
  rfl
theorem arrb_len {N : Nat} {s : Nat → Bool} : ((List.range N).map fun t => V.bl (s t)).length = N := by rw [List.length_map, List.length_range]
theorem arrb_set {N i : Nat} {s : Nat → Bool} {c : Bool} : ((List.range N).map fun t => V.bl (s t)).set i (.bl c) = (List.range N).map fun t => V.bl (if t = i then c else s t) := by
  apply List.ext_getElem?
  intro j
  rw [List.getElem?_set]
  by_cases h : i = j
  · subst h
    rw [if_pos rfl, arrb_len]
    by_cases hl : i < N
    · rw [if_pos hl, arrb_get hl, if_pos rfl]
    · rw [if_neg hl, List.getElem?_eq_none (by rw [arrb_len]; omega)]
  · rw [if_neg h, List.getElem?_map, List.getElem?_map]
    by_cases hl : j < N
    · rw [List.getElem?_range hl]
      simp [show ¬ j = i from fun z => h z.symm]
    · rw [List.getElem?_eq_none (by rw [List.length_range]; omega)]
      rfl
theorem arrb_rep {N : Nat} {c : Bool} : ((List.replicate N [V.bl c]).flatten) = (List.range N).map fun t => V.bl ((fun _ => c) t) := by
  induction N with
  | zero => rfl
  | succ n ih =>
    rw [List.replicate_succ', List.flatten_append, ih, List.range_succ, List.map_append]
    rfl
theorem arrb_ext {N : Nat} {xs : List V} {s : Nat → Bool} (hl : xs.length = N) (h : ∀ t, t < N → xs[t]? = some (.bl (s t))) : xs = (List.range N).map fun t => V.bl (s t) := by
  apply List.ext_getElem?
  intro t
  by_cases c : t < N
  · rw [h t c, arrb_get c]
  · rw [List.getElem?_eq_none (by omega), List.getElem?_eq_none (by rw [arrb_len]; omega)]
theorem arrb_congr {N : Nat} {s r : Nat → Bool} (h : ∀ t, t < N → s t = r t) : ((List.range N).map fun t => V.bl (s t)) = (List.range N).map fun t => V.bl (r t) :=
  List.map_congr_left fun t ht => by rw [h t (List.mem_range.mp ht)]
open Lv
theorem hit_congr {goods kept reach : Nat → Bool} {ts us : List Int} (h : ∀ t, t ∈ ts ↔ t ∈ us) : hit goods kept reach ts = hit goods kept reach us := by
  unfold hit
  rw [Bool.eq_iff_iff, List.any_eq_true, List.any_eq_true]
  exact ⟨fun ⟨t, a, b⟩ => ⟨t, (h t).mp a, b⟩, fun ⟨t, a, b⟩ => ⟨t, (h t).mpr a, b⟩⟩
theorem stp_congr {mv mv' : Nat → List Int} (h : ∀ k t, t ∈ mv k ↔ t ∈ mv' k) (goods kept : Nat → Bool) (k : Nat) (p : (Nat → Bool) × Bool) : stp mv goods kept k p = stp mv' goods kept k p := by
  unfold stp
  rw [hit_congr (h k)]
theorem pas_congr {mv mv' : Nat → List Int} (h : ∀ k t, t ∈ mv k ↔ t ∈ mv' k) (goods kept : Nat → Bool) (n : Nat) (p : (Nat → Bool) × Bool) : ∀ j, pas mv goods n kept j p = pas mv' goods n kept j p
  | 0 => rfl
  | j + 1 => by
    unfold pas
    rw [pas_congr h goods kept n p j, stp_congr h]
theorem inn_congr {mv mv' : Nat → List Int} (h : ∀ k t, t ∈ mv k ↔ t ∈ mv' k) (goods kept : Nat → Bool) (n : Nat) : ∀ f r, inn mv goods n kept f r = inn mv' goods n kept f r
  | 0, _ => rfl
  | f + 1, r => by
    unfold inn
    rw [pas_congr h, inn_congr h goods kept n f]
theorem out_congr {mv mv' : Nat → List Int} (h : ∀ k t, t ∈ mv k ↔ t ∈ mv' k) (goods : Nat → Bool) (n : Nat) : ∀ f k, out mv goods n f k = out mv' goods n f k
  | 0, _ => rfl
  | f + 1, k => by
    unfold out
    rw [inn_congr h, out_congr h goods n f]
theorem lives_congr {mv mv' : Nat → List Int} (h : ∀ k t, t ∈ mv k ↔ t ∈ mv' k) (goods : Nat → Bool) (n : Nat) (ss : List Int) : lives mv goods n ss = lives mv' goods n ss := by
  unfold lives
  rw [out_congr h]
/-- the rows of targets -/
structure Mvs (H : Hp) (M : Addr) (as : List Addr) (mv : Nat → List Int) (n : Nat) : Prop where
  at_ : H M = some (.lst (as.map V.ref))
  len : as.length = n
  row : ∀ (k : Nat) (a : Addr), as[k]? = some a → H a = some (.lst ((mv k).map V.int))
  lim : ∀ (k : Nat), k < n → (mv k).length ≤ 100000 ∧ ∀ t, t ∈ mv k → 0 ≤ t ∧ t < (n : Int)
theorem Mvs.same {H H' : Hp} {M : Addr} {as : List Addr} {mv : Nat → List Int} {n : Nat} (h : Mvs H M as mv n) (s : Same H H') : Mvs H' M as mv n := ⟨s _ _ h.at_, h.len, fun k a e => s _ _ (h.row k a e), h.lim⟩
def spLives : Sp := fun vs H Q _ => ∃ (M G S : Addr) (as : List Addr) (mv : Nat → List Int) (goods : Nat → Bool) (n : Nat) (ss : List Int), vs = [.ref M, .ref G, .ref S] ∧ Mvs H M as mv n ∧ ArrB H G n goods ∧ H S = some (.lst (ss.map V.int)) ∧ n ≤ 100000 ∧ (∀ s ∈ ss, 0 ≤ s ∧ s < (n : Int)) ∧
  ∀ H', Same H H' → Q (.bl (lives mv goods n ss)) H'
theorem bl_at {N : Nat} {s : Nat → Bool} {t : Int} (h0 : 0 ≤ t) (h1 : t < (N : Int)) : atI ((List.range N).map fun t => V.bl (s t)) t = some (.bl (s t.toNat)) := by
  have e : t = ((t.toNat : Nat) : Int) := by omega
  rw [e]
  exact atI_nat (by rw [arrb_get (by omega)]; rfl)
theorem eqB_data {n : Nat} (r k : Nat → Bool) : PyData.eqv (.list ((List.range n).map fun t => PyData.bool (r t))) (.list ((List.range n).map fun t => PyData.bool (k t))) = eqB n r k := by
  have go : ∀ l : List Nat, PyData.eqvAll (l.map fun t => PyData.bool (r t)) (l.map fun t => PyData.bool (k t)) = decide (∀ t, t ∈ l → r t = k t) := fun l => by
    induction l with
    | nil => simp [PyData.eqvAll]
    | cons a l ih => 
      rw [List.map_cons, List.map_cons, PyData.eqvAll, ih]
      simp [PyData.eqv]
      first | done | (cases r a <;> cases k a <;> rfl) | (congr 1; cases r a <;> cases k a <;> rfl)
  unfold eqB
  rw [PyData.eqv, go]
  simp [List.mem_range]
theorem dpb {K : PySem.W.Frag} {H : Hp} {a : Addr} {n : Nat} {r : Nat → Bool} (h : ArrB H a n r) : Dp K H (.ref a) (.list ((List.range n).map fun t => PyData.bool (r t))) := by
  have go : ∀ l : List Nat, DpAll K H (l.map fun t => V.bl (r t)) (l.map fun t => PyData.bool (r t)) := fun l => by
    induction l with
    | nil => exact .nil
    | cons a l ih => exact .cons (.bl _) ih
  exact .lst (.of h) (go _)
theorem shb {n : Nat} {r : Nat → Bool} : SeqAt.shaped (.list ((List.range n).map fun t => PyData.bool (r t))) = true := by
  have go : ∀ l : List Nat, PyData.canLayAll0 (l.map fun t => PyData.bool (r t)) = true := fun l => by
    induction l with
    | nil => simp [PyData.canLayAll0]
    | cons a l ih => simp [PyData.canLayAll0, PyData.canLay0] at ih ⊢; exact ih
  have dp : ∀ l : List Nat, PyData.depthAll (l.map fun t => PyData.bool (r t)) = 0 := fun l => by
    induction l with
    | nil => simp [PyData.depthAll]
    | cons a l ih => rw [List.map_cons, PyData.depthAll, ih]; simp [PyData.depth]
  unfold SeqAt.shaped
  rw [PyData.canLay0, go, PyData.depth, dp]
  rfl
theorem cal_lives (T : Txt K mg cA0 PA0 cA1 PA1) : C8.Cal P w K mg base 1 "_law_lives" spLives [] := by
  obtain ⟨f, fd, F, hm, hb⟩ := T.h_law_lives
  refine ⟨f, fd, _, [], F.ok sc_law_lives (fun vs H Q E h => ?_) (fun cdv A outer s H vs Q E hr h => ?_), hm, F.kp, hb, .nil⟩
  · obtain ⟨M, G, S, as, mv, goods, n, ss, rfl, _⟩ := h
    rfl
  · obtain ⟨M, G, S, as, mv, goods, n, ss, rfl, hM, hG, hS, hn, hss, q⟩ := h
    refine ⟨_, (pss_cons
      (ps_set (i := 3) sc_law_lives.nd rfl (Or.inl rfl) (pe_op op_rep (pe_lst (pa_cons pe_bl pa_nil)) (pe_callB (call_lenK (K := K) rfl) (by rfl) T.z_len PySem.boot_len (pa_cons (pv 0) pa_nil))))
      (C8.pss_cut
      (ps_for PassesOwn.never rfl (pi_range1 (by rfl) T.z_range (pa_cons (pe_op op_add (pe_callB (call_lenK (K := K) rfl) (by rfl) T.z_len PySem.boot_len (pa_cons (pv 0) pa_nil)) pe_int) pa_nil)) (pg_name (i := 4) sc_law_lives.nd rfl (.inl rfl)) (pss_cons
      (ps_set (i := 5) sc_law_lives.nd rfl (Or.inl rfl) (pe_op op_rep (pe_lst (pa_cons pe_bl pa_nil)) (pe_callB (call_lenK (K := K) rfl) (by rfl) T.z_len PySem.boot_len (pa_cons (pv 0) pa_nil))))
      (C8.pss_cut
      (ps_for PassesOwn.never rfl (pi_range1 (by rfl) T.z_range (pa_cons (pe_op op_add (pe_callB (call_lenK (K := K) rfl) (by rfl) T.z_len PySem.boot_len (pa_cons (pv 0) pa_nil)) pe_int) pa_nil)) (pg_name (i := 6) sc_law_lives.nd rfl (.inl rfl)) (pss_cons
      (ps_set (i := 7) sc_law_lives.nd rfl (Or.inl rfl) pe_bl)
      (pss_cons
      (ps_for PassesOwn.never rfl (pi_range1 (by rfl) T.z_range (pa_cons (pe_callB (call_lenK (K := K) rfl) (by rfl) T.z_len PySem.boot_len (pa_cons (pv 0) pa_nil)) pa_nil)) (pg_name (i := 8) sc_law_lives.nd rfl (.inl rfl)) (pss_cons
      (ps_set (i := 9) sc_law_lives.nd rfl (Or.inl rfl) (pe_op op_sub (pe_op op_sub (pe_callB (call_lenK (K := K) rfl) (by rfl) T.z_len PySem.boot_len (pa_cons (pv 0) pa_nil)) pe_int) (pv 8)))
      (pss_one
      (ps_if (PW.pt (pw_and (pt_val (pe_ix (ix_listK (K := K) rfl) (pv 3) (pv 9) (fun _ _ => rfl))) (pw_and1 (pt_not (pt_val (pe_ix (ix_listK (K := K) rfl) (pv 5) (pv 9) (fun _ _ => rfl))))))) (pss_one
      (ps_for PassesOwn.never rfl (pi_list (pe_ix (ix_listK (K := K) rfl) (pv 0) (pv 9) (fun _ _ => rfl))) (pg_name (i := 10) sc_law_lives.nd rfl (.inl rfl)) (pss_one
      (ps_if (PW.pt (pw_and (pt_val (pe_ix (ix_listK (K := K) rfl) (pv 3) (pv 10) (fun _ _ => rfl))) (pw_and1 (PW.pt (pw_or (pt_val (pe_ix (ix_listK (K := K) rfl) (pv 1) (pv 10) (fun _ _ => rfl))) (pw_or1 (pt_val (pe_ix (ix_listK (K := K) rfl) (pv 5) (pv 10) (fun _ _ => rfl))))))))) (pss_cons
      (ps_asg pe_bl (pg_sub (pv 5) (pv 9) set_list))
      (pss_one
      (ps_set (i := 7) sc_law_lives.nd rfl (Or.inl rfl) pe_bl))) pss_nil)))) pss_nil))))
      (pss_one
      (ps_if (pt_not (pt_val (pv 7))) (pss_one
      ps_break) pss_nil)))))
      (pss_cons
      (ps_if (pt_cmpR (op_eqDK (K := K) rfl hr.units) (pv 5) (pv 3) (nomark _)) (pss_one
      ps_break) pss_nil)
      (pss_one
      (ps_set (i := 3) sc_law_lives.nd rfl (Or.inl rfl) (pv 5)))))))
      (pss_cons
      (ps_for PassesOwn.never rfl (pi_list (pv 2)) (pg_name (i := 11) sc_law_lives.nd rfl (.inl rfl)) (pss_one
      (ps_if (pt_val (pe_ix (ix_listK (K := K) rfl) (pv 3) (pv 11) (fun _ _ => rfl))) (pss_one
      (ps_ret pe_bl)) pss_nil)))
      (pss_one
      (ps_ret pe_bl))))), ?_⟩
    have hbig : n ≤ sizeLine := Nat.le_trans hn (by decide)
    have hml : (as.map V.ref).length = n := by rw [List.length_map, hM.len]
    refine ⟨by show 1 ≤ sizeLine; decide, fun p1 n1 => ?_⟩
    have s1 : Same H (upd H p1 (.lst [.bl true])) := same_new n1
    refine ⟨_, rfl, M, _, rfl, .inl (.of (s1 _ _ hM.at_)), p1, _, _, rfl, rfl, upd_same, ?_, ?_, ?_, fun o ho => ?_⟩
    · rw [hml]; omega
    · rw [hml]; omega
    · rw [hml]; show 1 * ((n : Nat) : Int).toNat ≤ sizeLine; omega
    have ho0 : H o = none := s1.free ho
    rw [hml, Int.toNat_natCast, arrb_rep]
    have s2 := s1.trans (same_new (o := .lst ((List.range n).map fun t => V.bl ((fun _ => true) t))) ho)
    have e2 : ArrB (upd (upd H p1 (.lst [.bl true])) o (.lst ((List.range n).map fun t => V.bl ((fun _ => true) t)))) o n (fun _ => true) := upd_same
    generalize upd (upd H p1 (.lst [.bl true])) o (.lst ((List.range n).map fun t => V.bl ((fun _ => true) t))) = H2 at s2 e2 ⊢
    -- the rounds
    refine ⟨fun σ H3 => ∃ (o3 : Addr) (v4 v5 v6 v7 v8 v9 v10 v11 : Option V), σ = [some (.ref M), some (.ref G), some (.ref S), some (.ref o3), v4, v5, v6, v7, v8, v9, v10, v11] ∧ Same H H3 ∧ ArrB H3 o3 n (out mv goods n (n + 1) fun _ => true), ?_, ?_⟩
    · refine ⟨_, rfl, M, _, rfl, .inl (.of (s2 _ _ hM.at_)), _, _, rfl, rfl, _, rfl, by rw [hml]; omega, by rw [hml]; omega, ?_⟩
      rw [hml]
      refine for_range (lo := 0) (n := ((n : Int) + 1).toNat) (fun i σ H3 => ∃ (o3 : Addr) (kp : Nat → Bool) (v4 v5 v6 v7 v8 v9 v10 v11 : Option V), σ = [some (.ref M), some (.ref G), some (.ref S), some (.ref o3), v4, v5, v6, v7, v8, v9, v10, v11] ∧ Same H H3 ∧ H o3 = none ∧ ArrB H3 o3 n kp ∧
        out mv goods n (n + 1 - i) kp = out mv goods n (n + 1) fun _ => true) ⟨o, _, none, none, none, none, none, none, none, none, rfl, s2, ho0, e2, rfl⟩ ?_ ?_
      · rintro i σ H3 hi ⟨o3, kp, v4, v5, v6, v7, v8, v9, v10, v11, rfl, s3, hk0, e3, hout⟩
        have hi' : i < n + 1 := by omega
        refine ⟨by show 1 ≤ sizeLine; decide, fun p4 n4 => ?_⟩
        have s4 : Same H3 (upd H3 p4 (.lst [.bl false])) := same_new n4
        refine ⟨_, rfl, M, _, rfl, .inl (.of ((s3.trans s4) _ _ hM.at_)), p4, _, _, rfl, rfl, upd_same, ?_, ?_, ?_, fun r hr0 => ?_⟩
        · rw [hml]; omega
        · rw [hml]; omega
        · rw [hml]; show 1 * ((n : Nat) : Int).toNat ≤ sizeLine; omega
        rw [hml, Int.toNat_natCast, arrb_rep]
        have s5 := s4.trans (same_new (o := .lst ((List.range n).map fun t => V.bl ((fun _ => false) t))) hr0)
        have e5 : ArrB (upd (upd H3 p4 (.lst [.bl false])) r (.lst ((List.range n).map fun t => V.bl ((fun _ => false) t)))) r n (fun _ => false) := upd_same
        have r0 : H3 r = none := s4.free hr0
        have rk : o3 ≠ r := fun z => by rw [ArrB, z, r0] at e3; cases e3
        have rH : H r = none := s3.free r0
        have k5 := s5 _ _ e3
        generalize upd (upd H3 p4 (.lst [.bl false])) r (.lst ((List.range n).map fun t => V.bl ((fun _ => false) t))) = H5 at s5 e5 k5 ⊢
        have s05 := s3.trans s5
        clear s4 hr0 n4 s5 r0 e3
        -- again and again
        refine ⟨fun σ H6 => ∃ (v6 v7 v8 v9 v10 : Option V), σ = [some (.ref M), some (.ref G), some (.ref S), some (.ref o3), some (.int (0 + (i : Int))), some (.ref r), v6, v7, v8, v9, v10, v11] ∧ Same H H6 ∧ ArrB H6 o3 n kp ∧ ArrB H6 r n (inn mv goods n kp (n + 1) fun _ => false), ?_, ?_⟩
        · refine ⟨_, rfl, M, _, rfl, .inl (.of (s05 _ _ hM.at_)), _, _, rfl, rfl, _, rfl, by rw [hml]; omega, by rw [hml]; omega, ?_⟩
          rw [hml]
          refine for_range (lo := 0) (n := ((n : Int) + 1).toNat) (fun i6 σ H6 => ∃ (rc : Nat → Bool) (v6 v7 v8 v9 v10 : Option V), σ = [some (.ref M), some (.ref G), some (.ref S), some (.ref o3), some (.int (0 + (i : Int))), some (.ref r), v6, v7, v8, v9, v10, v11] ∧ Same H H6 ∧ ArrB H6 o3 n kp ∧ ArrB H6 r n rc ∧
            inn mv goods n kp (n + 1 - i6) rc = inn mv goods n kp (n + 1) fun _ => false) ⟨_, v6, v7, v8, v9, v10, rfl, s05, k5, e5, rfl⟩ ?_ ?_
          · clear s05 k5 e5
            rintro i6 σ H6 hi6 ⟨rc, v6, v7, v8, v9, v10, rfl, s6, k6, e6, hinn⟩
            refine ⟨_, rfl, M, _, rfl, .inl (.of (s6 _ _ hM.at_)), _, rfl, by rw [hml]; omega, by rw [hml]; omega, ?_⟩
            rw [hml, Int.toNat_natCast]
            refine for_range (lo := 0) (n := n) (fun j σ H7 => ∃ (v8 v9 v10 : Option V), σ = [some (.ref M), some (.ref G), some (.ref S), some (.ref o3), some (.int (0 + (i : Int))), some (.ref r), some (.int (0 + (i6 : Int))), some (.bl (pas mv goods n kp j (rc, false)).2), v8, v9, v10, v11] ∧ Same H H7 ∧ ArrB H7 o3 n kp ∧
              ArrB H7 r n (pas mv goods n kp j (rc, false)).1) ⟨v8, v9, v10, rfl, s6, k6, e6⟩ ?_ ?_
            · clear s6 k6 e6
              rintro j σ H7 hj ⟨v8, v9, v10, rfl, s7, k7, e7⟩
              obtain ⟨p, hp⟩ : ∃ p, pas mv goods n kp j (rc, false) = p := ⟨_, rfl⟩
              have hps : pas mv goods n kp (j + 1) (rc, false) = stp mv goods kp (n - 1 - j) p := by rw [← hp]; rfl
              rw [hp] at e7 ⊢
              rw [hps]
              refine ⟨_, rfl, M, _, rfl, .inl (.of (s7 _ _ hM.at_)), _, _, rfl, rfl, _, rfl, _, _, rfl, rfl, ?_⟩
              rw [hml]
              dsimp only
              obtain ⟨k, hk⟩ : ∃ k, n - 1 - j = k := ⟨_, rfl⟩
              have hkn : k < n := by omega
              rw [show ((n : Nat) : Int) - 1 - (0 + (j : Int)) = (k : Int) by omega, hk]
              have kat : ∀ {f : Nat → Bool}, atI ((List.range n).map fun t => V.bl (f t)) (k : Int) = some (.bl (f k)) := fun {f} => bl_at (t := (k : Int)) (by omega) (by omega)
              have stay : ¬ (kp k && !p.1 k) = true → ∃ (v8' v9' v10' : Option V), [some (V.ref M), some (.ref G), some (.ref S), some (.ref o3), some (.int (0 + (i : Int))), some (.ref r), some (.int (0 + (i6 : Int))), some (.bl p.2), some (.int (0 + (j : Int))), some (.int (k : Int)), v10, v11] = [some (.ref M), some (.ref G), some (.ref S), some (.ref o3), some (.int (0 + (i : Int))), some (.ref r), some (.int (0 + (i6 : Int))), some (.bl (stp mv goods kp k p).2), v8', v9', v10', v11] ∧ Same H H7 ∧ ArrB H7 o3 n kp ∧
                  ArrB H7 r n (stp mv goods kp k p).1 := fun c => by
                have e : stp mv goods kp k p = p := by
                  unfold stp
                  rw [if_neg (fun z => c (Bool.and_eq_true_iff.mp z).1)]
                rw [e]
                exact ⟨_, _, _, rfl, s7, k7, e7⟩
              refine ⟨_, rfl, _, rfl, o3, _, _, _, rfl, rfl, .of k7, kat, _, rfl, ite2 (fun c1 => ?_) (fun c1 => ?_)⟩
              · refine ⟨_, rfl, _, rfl, r, _, _, _, rfl, rfl, .of e7, kat, _, rfl, ite2 (fun c2 => ?_) (fun c2 => ?_)⟩
                · have hc12 : (kp k && !p.1 k) = true := by rw [c1, c2]; rfl
                  have hstp : stp mv goods kp k p = if hit goods kp p.1 (mv k) = true then (fun t => if t = k then true else p.1 t, true) else p := by
                    unfold stp
                    rw [hc12, Bool.true_and]
                  obtain ⟨b, hb1⟩ : ∃ b, as[k]? = some b := ⟨_, List.getElem?_eq_getElem (by rw [hM.len]; exact hkn)⟩
                  have M7 := hM.same s7
                  have hbr := hM.row k b hb1
                  obtain ⟨hml2, hmt⟩ := hM.lim k hkn
                  refine ⟨_, rfl, _, rfl, M, _, _, .ref b, rfl, rfl, .of M7.at_, atI_nat (by rw [List.getElem?_map, hb1]; rfl), b, rfl, ⟨_, .of (s7 _ _ hbr)⟩, ?_⟩
                  refine for_list (xs := (mv k).map V.int) (fun i8 σ H8 => ∃ (h : Bool) (v10 : Option V), h = hit goods kp p.1 ((mv k).take i8) ∧ σ = [some (.ref M), some (.ref G), some (.ref S), some (.ref o3), some (.int (0 + (i : Int))), some (.ref r), some (.int (0 + (i6 : Int))), some (.bl (if h = true then true else p.2)), some (.int (0 + (j : Int))), some (.int (k : Int)), v10, v11] ∧ Same H H8 ∧ ArrB H8 o3 n kp ∧
                    ArrB H8 r n (if h = true then (fun t => if t = k then true else p.1 t) else p.1)) ⟨false, v10, rfl, rfl, s7, k7, e7⟩ (fun i8 σ H8 _ ⟨_, _, _, _, z, _⟩ => .of (z _ _ hbr)) ?_ ?_
                  · clear s7 k7 e7 M7 stay
                    rintro i8 x σ H8 hx ⟨h, v10, hh, rfl, s8, k8, e8⟩
                    obtain ⟨z, hz, rfl⟩ : ∃ z, (mv k)[i8]? = some z ∧ x = V.int z := by
                      rw [List.getElem?_map] at hx
                      cases e : (mv k)[i8]? with
                      | none => rw [e] at hx; cases hx
                      | some z => rw [e] at hx; exact ⟨z, rfl, (Option.some.inj hx).symm⟩
                    obtain ⟨z0, z1⟩ := hmt z (List.mem_of_getElem? hz)
                    have hnx : hit goods kp p.1 ((mv k).take (i8 + 1)) = (h || (kp z.toNat && (goods z.toNat || p.1 z.toNat))) := by
                      rw [hh, List.take_add_one, hz]
                      unfold hit
                      rw [List.any_append]
                      simp
                    have no : (h = false → (kp z.toNat && (goods z.toNat || p.1 z.toNat)) = false) → ∃ (h' : Bool) (v10' : Option V), h' = hit goods kp p.1 ((mv k).take (i8 + 1)) ∧ [some (V.ref M), some (.ref G), some (.ref S), some (.ref o3), some (.int (0 + (i : Int))), some (.ref r), some (.int (0 + (i6 : Int))), some (.bl (if h = true then true else p.2)), some (.int (0 + (j : Int))), some (.int (k : Int)), some (.int z), v11] = [some (.ref M), some (.ref G), some (.ref S), some (.ref o3), some (.int (0 + (i : Int))), some (.ref r), some (.int (0 + (i6 : Int))), some (.bl (if h' = true then true else p.2)), some (.int (0 + (j : Int))), some (.int (k : Int)), v10', v11] ∧ Same H H8 ∧ ArrB H8 o3 n kp ∧
                        ArrB H8 r n (if h' = true then (fun t => if t = k then true else p.1 t) else p.1) := fun a => by
                      refine ⟨h, _, ?_, rfl, s8, k8, e8⟩
                      rw [hnx]
                      cases h with
                      | true => rfl
                      | false => rw [a rfl]; rfl
                    have fe : (fun t => if t = k then true else (if h = true then (fun t => if t = k then true else p.1 t) else p.1) t) = fun t => if t = k then true else p.1 t := by
                      funext t
                      by_cases y : t = k
                      · rw [if_pos y, if_pos y]
                      · rw [if_neg y, if_neg y]
                        cases h with
                        | true => show (if t = k then true else p.1 t) = _; rw [if_neg y]
                        | false => rfl
                    have e9 : ArrB (upd H8 r (.lst (((List.range n).map fun t => V.bl ((if h = true then (fun t => if t = k then true else p.1 t) else p.1) t)).set k (.bl true)))) r n fun t => if t = k then true else p.1 t := by
                      rw [arrb_set, arrb_congr (r := fun t => if t = k then true else p.1 t) (fun t _ => congrFun fe t)]
                      exact upd_same
                    have k9 : ArrB (upd H8 r (.lst (((List.range n).map fun t => V.bl ((if h = true then (fun t => if t = k then true else p.1 t) else p.1) t)).set k (.bl true)))) o3 n kp := by
                      unfold ArrB
                      rw [upd_ne rk]
                      exact k8
                    have s9 : Same H (upd H8 r (.lst (((List.range n).map fun t => V.bl ((if h = true then (fun t => if t = k then true else p.1 t) else p.1) t)).set k (.bl true)))) := fun c u hc => by
                      rw [upd_ne (ne_of_none hc rH)]
                      exact s8 _ _ hc
                    have ixk : ixN ((List.range n).map fun t => V.bl ((if h = true then (fun t => if t = k then true else p.1 t) else p.1) t)).length (k : Int) = some k := by
                      rw [arrb_len]
                      exact ixN_at hkn
                    refine ⟨_, rfl, _, rfl, o3, _, _, _, rfl, rfl, .of k8, bl_at z0 z1, _, rfl, ite2 (fun a1 => ?_) (fun a1 => ?_)⟩
                    · refine ⟨_, rfl, _, rfl, G, _, _, _, rfl, rfl, .of (s8 _ _ hG), bl_at z0 z1, _, rfl, ite2 (fun a2 => ?_) (fun a2 => ?_)⟩
                      · refine ⟨_, rfl, _, rfl, r, _, _, k, rfl, rfl, e8, ixk, ?_⟩
                        exact ⟨true, _, by rw [hnx, a1, a2]; cases h <;> rfl, rfl, s9, k9, e9⟩
                      · refine ⟨_, rfl, _, rfl, r, _, _, _, rfl, rfl, .of e8, bl_at z0 z1, _, rfl, ite2 (fun a3 => ?_) (fun a3 => ?_)⟩
                        · refine ⟨_, rfl, _, rfl, r, _, _, k, rfl, rfl, e8, ixk, ?_⟩
                          refine ⟨true, _, ?_, rfl, s9, k9, e9⟩
                          rw [hnx, a1]
                          cases h with
                          | true => rfl
                          | false =>
                            have a4 : p.1 z.toNat = true := a3
                            rw [a4]
                            cases goods z.toNat <;> rfl
                        · refine no fun hf => ?_
                          subst hf
                          have a4 : p.1 z.toNat = false := Bool.eq_false_iff.mpr a3
                          rw [a4, Bool.eq_false_iff.mpr a2]
                          cases kp z.toNat <;> rfl
                    · refine no fun _ => ?_
                      rw [Bool.eq_false_iff.mpr a1]
                      rfl
                  · clear s7 k7 e7 M7 stay
                    rintro σ H8 ⟨h, v10, hh, rfl, s8, k8, e8⟩
                    rw [List.length_map, List.take_length] at hh
                    rw [hstp, ← hh]
                    cases h with
                    | true => exact ⟨_, _, _, rfl, s8, k8, e8⟩
                    | false => exact ⟨_, _, _, rfl, s8, k8, e8⟩
                · exact stay fun z => c2 (Bool.and_eq_true_iff.mp z).2
              · exact stay fun z => c1 (Bool.and_eq_true_iff.mp z).1
            · clear s6 k6 e6
              rintro σ H7 ⟨v8, v9, v10, rfl, s7, k7, e7⟩
              have hst : inn mv goods n kp (n + 1 - i6) rc = if (pas mv goods n kp n (rc, false)).2 = true then inn mv goods n kp (n + 1 - (i6 + 1)) (pas mv goods n kp n (rc, false)).1 else (pas mv goods n kp n (rc, false)).1 := by
                rw [show n + 1 - i6 = (n + 1 - (i6 + 1)) + 1 by omega]
                rfl
              rw [hst] at hinn
              refine ⟨_, rfl, _, rfl, ite2 (fun c => ?_) (fun c => ?_)⟩
              · have c' : ¬ (pas mv goods n kp n (rc, false)).2 = true := fun z => by rw [z] at c; cases c
                rw [if_neg c'] at hinn
                exact ⟨_, _, _, _, _, rfl, s7, k7, by rw [← hinn]; exact e7⟩
              · have c' : (pas mv goods n kp n (rc, false)).2 = true := by
                  cases y : (pas mv goods n kp n (rc, false)).2 with
                  | true => rfl
                  | false => rw [y] at c; exact absurd rfl c
                rw [if_pos c'] at hinn
                exact ⟨_, _, _, _, _, _, rfl, s7, k7, e7, hinn⟩
          · rintro σ H6 ⟨rc, v6, v7, v8, v9, v10, rfl, s6, k6, e6, hinn⟩
            rw [show n + 1 - ((n : Int) + 1).toNat = 0 by omega] at hinn
            exact ⟨v6, v7, v8, v9, v10, rfl, s6, k6, by rw [← hinn]; exact e6⟩
        · clear s05 k5 e5
          rintro σ H6 ⟨v6, v7, v8, v9, v10, rfl, s6, k6, e6⟩
          have hstep : out mv goods n (n + 1 - i) kp = if eqB n (inn mv goods n kp (n + 1) fun _ => false) kp = true then kp else out mv goods n (n + 1 - (i + 1)) (inn mv goods n kp (n + 1) fun _ => false) := by
            rw [show n + 1 - i = (n + 1 - (i + 1)) + 1 by omega]
            rfl
          refine ⟨_, rfl, _, rfl, _, _, dpb e6, dpb k6, shb, shb, _, rfl, ?_⟩
          rw [eqB_data]
          rw [hstep] at hout
          refine ite2 (fun c => ?_) (fun c => ?_)
          · rw [if_pos c] at hout
            exact ⟨o3, _, _, _, _, _, _, _, _, rfl, s6, by rw [← hout]; exact k6⟩
          · rw [if_neg c] at hout
            exact ⟨_, rfl, r, _, _, _, _, _, _, _, _, _, rfl, s6, rH, e6, hout⟩
      · rintro σ H3 ⟨o3, kp, v4, v5, v6, v7, v8, v9, v10, v11, rfl, s3, hk0, e3, hout⟩
        rw [show n + 1 - ((n : Int) + 1).toNat = 0 by omega] at hout
        exact ⟨o3, _, _, _, _, _, _, _, _, rfl, s3, by rw [← hout]; exact e3⟩
    · clear s2 e2 ho ho0 s1 n1
      rintro σ H3 ⟨o3, v4, v5, v6, v7, v8, v9, v10, v11, rfl, s3, e3⟩
      have hS3 := s3 _ _ hS
      refine ⟨_, rfl, S, rfl, ⟨_, .of hS3⟩, for_list (xs := ss.map V.int) (fun i σ H4 => ∃ v11 : Option V, σ = [some (.ref M), some (.ref G), some (.ref S), some (.ref o3), v4, v5, v6, v7, v8, v9, v10, v11] ∧ H4 = H3 ∧ ∀ j x, j < i → ss[j]? = some x → out mv goods n (n + 1) (fun _ => true) x.toNat = false)
        ⟨v11, rfl, rfl, fun j x hj => absurd hj (Nat.not_lt_zero j)⟩ (fun i σ H4 _ ⟨_, _, z, _⟩ => by rw [z]; exact .of hS3) ?_ ?_⟩
      · rintro i x σ H4 hx ⟨v11, rfl, rfl, hno⟩
        obtain ⟨z, hz, rfl⟩ : ∃ z, ss[i]? = some z ∧ x = V.int z := by
          rw [List.getElem?_map] at hx
          cases e : ss[i]? with
          | none => rw [e] at hx; cases hx
          | some z => rw [e] at hx; exact ⟨z, rfl, (Option.some.inj hx).symm⟩
        obtain ⟨z0, z1⟩ := hss z (List.mem_of_getElem? hz)
        refine ⟨_, rfl, _, rfl, o3, _, _, _, rfl, rfl, .of e3, bl_at z0 z1, _, rfl, ?_⟩
        refine ite2 (fun c => ?_) (fun c => ?_)
        · have e : lives mv goods n ss = true := List.any_eq_true.mpr ⟨z, List.mem_of_getElem? hz, c⟩
          have q2 := q H4 s3
          rw [e] at q2
          exact q2
        · refine ⟨_, rfl, rfl, fun j x hj hjx => ?_⟩
          rcases Nat.lt_or_ge j i with y | y
          · exact hno j x y hjx
          · have ej : j = i := by omega
            rw [ej, hz] at hjx
            cases hjx
            exact Bool.eq_false_iff.mpr c
      · rintro σ H4 ⟨v11, rfl, rfl, hno⟩
        have e : lives mv goods n ss = false := by
          unfold lives
          rw [Bool.eq_false_iff, ne_eq, List.any_eq_true]
          rintro ⟨z, hz, c⟩
          obtain ⟨i, hi, hiz⟩ := List.mem_iff_getElem.mp hz
          rw [hno i z (by rw [List.length_map]; exact hi) (by rw [List.getElem?_eq_getElem hi, hiz])] at c
          cases c
        have q2 := q H4 s3
        rw [e] at q2
        exact q2
def SqI (K : PySem.W.Frag) (H : Hp) (a : Addr) (ns : List Int) : Prop := SqL K H a (ns.map V.int) ∨ SqT K H a (ns.map V.int)
def Sq2 (K : PySem.W.Frag) (H : Hp) (v : V) (row : List (List Int)) : Prop := ∃ (a : Addr) (xs : List V), v = .ref a ∧ (SqL K H a xs ∨ SqT K H a xs) ∧ xs.length = row.length ∧ ∀ (j : Nat) (ts : List Int), row[j]? = some ts → ∃ b, xs[j]? = some (V.ref b) ∧ SqI K H b ts
def Sq3 (K : PySem.W.Frag) (H : Hp) (a : Addr) (rows : List (List (List Int))) : Prop := ∃ xs : List V, (SqL K H a xs ∨ SqT K H a xs) ∧ xs.length = rows.length ∧ ∀ (i : Nat) (row : List (List Int)), rows[i]? = some row → ∃ v : V, xs[i]? = some v ∧ Sq2 K H v row
theorem sq_same' {K : PySem.W.Frag} {H H' : Hp} {a : Addr} {xs : List V} (s : Same H H') (h : SqL K H a xs ∨ SqT K H a xs) : SqL K H' a xs ∨ SqT K H' a xs := h.elim (fun h => .inl (s.seq h)) (fun h => .inr (sqt_same s h))
theorem rix {K : PySem.W.Frag} {H : Hp} {a : Addr} {xs : List V} {i : Int} {v : V} {Q : VK} (h : SqL K H a xs ∨ SqT K H a xs) (e : atI xs i = some v) (q : Q v H) : rIx K (.ref a) (.int i) H Q :=
  h.elim (fun h => .inl ⟨a, xs, i, v, rfl, rfl, h, e, q⟩) (fun h => .inr (.inl ⟨a, xs, i, v, rfl, rfl, h, e, q⟩))
section
variable (rows : List (List (List Int))) (acc h l : List Int)
def aft (j : Nat) : Int := if j + 1 = h.length + l.length then (h.length : Int) else (j : Int) + 1
def ent (k : Nat) : List Int := (rows.getD (k / (h.length + l.length)) []).getD (((h ++ l).getD (k % (h.length + l.length)) 0).toNat) []
def mvF (k : Nat) : List Int := (ent rows h l k).map fun t => t * ((h.length + l.length : Nat) : Int) + aft h l (k % (h.length + l.length))
def goF (k : Nat) : Bool := decide (((k / (h.length + l.length) : Nat) : Int) ∈ acc)
end
def accV (rows : List (List (List Int))) (ini acc h l : List Int) : Bool := lives (mvF rows h l) (goF acc h l) (rows.length * (h.length + l.length)) (ini.map fun s => s * ((h.length + l.length : Nat) : Int))
def spAcc (K : PySem.W.Frag) : Sp := fun vs H Q _ => ∃ (R I A p : Addr) (rows : List (List (List Int))) (ini acc h l : List Int) (wd : Int), vs = [.ref R, .ref I, .ref A, .ref p] ∧ Sq3 K H R rows ∧ SqI K H I ini ∧ SqI K H A acc ∧ Las H p h l ∧ l ≠ [] ∧ h.length ≤ 100 ∧ l.length ≤ 100 ∧ rows.length ≤ 100 ∧ ini.length ≤ 1000 ∧
  (∀ s, s ∈ ini → 0 ≤ s ∧ s < (rows.length : Int)) ∧ (∀ z, z ∈ h ++ l → 0 ≤ z ∧ z < wd) ∧ (∀ row, row ∈ rows → (row.length : Int) = wd ∧ ∀ ts, ts ∈ row → ts.length ≤ 100000 ∧ ∀ t, t ∈ ts → 0 ≤ t ∧ t < (rows.length : Int)) ∧
  ∀ H', Same H H' → Q (.bl (accV rows ini acc h l)) H'
theorem aft_lim {h l : List Int} (hne : l ≠ []) (j : Nat) (hj : j < h.length + l.length) : 0 ≤ aft h l j ∧ aft h l j < ((h.length + l.length : Nat) : Int) := by
  have := List.length_pos_iff.mpr hne
  unfold aft
  split <;> omega
theorem mul_lim {t n : Int} {s : Nat} {a : Int} (h0 : 0 ≤ t) (h1 : t < n) (a0 : 0 ≤ a) (a1 : a < (s : Int)) : 0 ≤ t * (s : Int) + a ∧ t * (s : Int) + a < n * (s : Int) := by
  have e1 : 0 ≤ t * (s : Int) := Int.mul_nonneg h0 (by omega)
  have e2 : (t + 1) * (s : Int) ≤ n * (s : Int) := Int.mul_le_mul_of_nonneg_right (by omega) (by omega)
  rw [Int.add_mul, Int.one_mul] at e2
  omega
theorem ent_lim {rows : List (List (List Int))} {h l : List Int} {wd : Int} (hw : ∀ z, z ∈ h ++ l → 0 ≤ z ∧ z < wd) (hr : ∀ row, row ∈ rows → (row.length : Int) = wd ∧ ∀ ts, ts ∈ row → ts.length ≤ 100000 ∧ ∀ t, t ∈ ts → 0 ≤ t ∧ t < (rows.length : Int)) (hs : 0 < h.length + l.length) {k : Nat} (hk : k < rows.length * (h.length + l.length)) :
    ∃ row z, rows[k / (h.length + l.length)]? = some row ∧ (h ++ l)[k % (h.length + l.length)]? = some z ∧ 0 ≤ z ∧ row[z.toNat]? = some (ent rows h l k) ∧ (ent rows h l k).length ≤ 100000 ∧ ∀ t, t ∈ ent rows h l k → 0 ≤ t ∧ t < (rows.length : Int) := by
  have h1 : k / (h.length + l.length) < rows.length := Nat.div_lt_of_lt_mul (by rw [Nat.mul_comm]; exact hk)
  have h2 : k % (h.length + l.length) < (h ++ l).length := by rw [List.length_append]; exact Nat.mod_lt _ hs
  have e1 : rows[k / (h.length + l.length)]? = some rows[k / (h.length + l.length)] := List.getElem?_eq_getElem h1
  have e2 : (h ++ l)[k % (h.length + l.length)]? = some (h ++ l)[k % (h.length + l.length)] := List.getElem?_eq_getElem h2
  obtain ⟨z0, z1⟩ := hw _ (List.mem_of_getElem? e2)
  obtain ⟨r1, r2⟩ := hr _ (List.mem_of_getElem? e1)
  have h3 : ((h ++ l)[k % (h.length + l.length)]).toNat < (rows[k / (h.length + l.length)]).length := by omega
  have e3 := List.getElem?_eq_getElem h3
  have ee : ent rows h l k = (rows[k / (h.length + l.length)])[((h ++ l)[k % (h.length + l.length)]).toNat] := by
    unfold ent
    rw [List.getD_eq_getElem?_getD, List.getD_eq_getElem?_getD, List.getD_eq_getElem?_getD, e1, e2, Option.getD_some, Option.getD_some, e3, Option.getD_some]
  rw [ee]
  exact ⟨_, _, e1, e2, z0, e3, r2 _ (List.mem_of_getElem? e3)⟩
/-- a field, within a comprehension's block -/
theorem pe_fldK {X : Cx} {K : PySem.W.Frag} {e : Expr} {f : Str} {pos : Pos} {ta : TE} (h : X.K = K) (he : PE X e ta) (hb : attributeBase e f X.env (eval e X.env) = eval e X.env) : PE X (.Attribute e f pos) (tFld K ta f) := by
  subst h
  exact pe_fld he hb
/-- two clauses: the outer walk over a tuple -/
theorem lc2_tup {a : Addr} {xs : List V} {g g1 : TG} {tt tt1 : TT} {wi1 : TI} {te : TE} {vs vs1 : List Nat} {σ : L2.St} {H1 : Hp} {D : Addr} {Qd : Hp → Prop} (Pv : Nat → Hp → Prop) (h0 : Pv 0 (upd H1 D (.lst []))) (hl : ∀ i H, i ≤ xs.length → Pv i H → SqT K H a xs)
    (hs : ∀ i x H, xs[i]? = some x → Pv i H → g x (wipe σ vs) H fun σ2 H2 => wipe σ2 vs = wipe σ vs ∧ tt σ2 H2 fun b H3 => if b = true then wi1 σ2 H3 fun J1 H4 => ∃ W1 : Nat → Nat → Hp → Prop, (∃ m, W1 0 m H4) ∧ ∀ j k H, W1 j k H →
      (J1.stop j H ∧ Pv (i + 1) H) ∨ (J1.go j H ∧ ∃ Nx1 : Hp → Prop, (∀ H', Nx1 H' → ∃ k', k' < k ∧ W1 (j + 1) k' H') ∧ ∀ x H', J1.yld j H x H' → g1 x (wipe σ2 vs1) H' fun σ3 H5 => wipe σ3 vs1 = wipe σ2 vs1 ∧ tt1 σ3 H5 fun b H6 =>
        if b = true then te σ3 H6 fun y H7 => ∃ acc, H7 D = some (.lst acc) ∧ acc.length < sizeLine ∧ Nx1 (upd H7 D (.lst (acc ++ [y]))) else Nx1 H6) else Pv (i + 1) H3) (hd : ∀ H, Pv xs.length H → Qd H) :
    ∃ W : Nat → Nat → Hp → Prop, (∃ m, W 0 m (upd H1 D (.lst []))) ∧ ∀ i m H, W i m H →
      ((Itt K a).stop i H ∧ Qd H) ∨ ((Itt K a).go i H ∧ ∃ Nx : Hp → Prop, (∀ H', Nx H' → ∃ m', m' < m ∧ W (i + 1) m' H') ∧ ∀ x H', (Itt K a).yld i H x H' → g x (wipe σ vs) H' fun σ2 H2 => wipe σ2 vs = wipe σ vs ∧ tt σ2 H2 fun b H3 =>
        if b = true then wi1 σ2 H3 fun J1 H4 => ∃ W1 : Nat → Nat → Hp → Prop, (∃ m, W1 0 m H4) ∧ ∀ j k H, W1 j k H →
          (J1.stop j H ∧ Nx H) ∨ (J1.go j H ∧ ∃ Nx1 : Hp → Prop, (∀ H', Nx1 H' → ∃ k', k' < k ∧ W1 (j + 1) k' H') ∧ ∀ x H', J1.yld j H x H' → g1 x (wipe σ2 vs1) H' fun σ3 H5 => wipe σ3 vs1 = wipe σ2 vs1 ∧ tt1 σ3 H5 fun b H6 =>
            if b = true then te σ3 H6 fun y H7 => ∃ acc, H7 D = some (.lst acc) ∧ acc.length < sizeLine ∧ Nx1 (upd H7 D (.lst (acc ++ [y]))) else Nx1 H6) else Nx H3) := by
  refine ⟨fun i m H => m = xs.length - i ∧ i ≤ xs.length ∧ Pv i H, ⟨xs.length, by simp, Nat.zero_le _, h0⟩, ?_⟩
  rintro i m H ⟨rfl, hi, p⟩
  have q := hl i H hi p
  rcases Nat.lt_or_ge i xs.length with c | c
  · exact .inr ⟨⟨xs, xs[i], q, List.getElem?_eq_getElem c⟩, Pv (i + 1), fun H' p' => ⟨xs.length - (i + 1), by omega, rfl, c, p'⟩, fun x H' y => by rw [y.1]; exact hs i x H (y.2 xs q) p⟩
  · have e : i = xs.length := Nat.le_antisymm hi c
    rw [e] at p
    exact .inl ⟨⟨xs, q, c⟩, hd H p⟩
/-- .. the inner walk over a tuple -/
theorem lc2_in {b : Addr} {ys : List V} {g1 : TG} {tt1 : TT} {te : TE} {vs1 : List Nat} {σ2 : L2.St} {H4 : Hp} {D : Addr} {Nx : Hp → Prop} (Pv : Nat → Hp → Prop) (h0 : Pv 0 H4) (hl : ∀ j H, j ≤ ys.length → Pv j H → SqT K H b ys)
    (hs : ∀ j x H, ys[j]? = some x → Pv j H → g1 x (wipe σ2 vs1) H fun σ3 H5 => wipe σ3 vs1 = wipe σ2 vs1 ∧ tt1 σ3 H5 fun c H6 => if c = true then te σ3 H6 fun y H7 => ∃ acc, H7 D = some (.lst acc) ∧ acc.length < sizeLine ∧ Pv (j + 1) (upd H7 D (.lst (acc ++ [y]))) else Pv (j + 1) H6)
    (hd : ∀ H, Pv ys.length H → Nx H) :
    ∃ W1 : Nat → Nat → Hp → Prop, (∃ m, W1 0 m H4) ∧ ∀ j k H, W1 j k H →
      ((Itt K b).stop j H ∧ Nx H) ∨ ((Itt K b).go j H ∧ ∃ Nx1 : Hp → Prop, (∀ H', Nx1 H' → ∃ k', k' < k ∧ W1 (j + 1) k' H') ∧ ∀ x H', (Itt K b).yld j H x H' → g1 x (wipe σ2 vs1) H' fun σ3 H5 => wipe σ3 vs1 = wipe σ2 vs1 ∧ tt1 σ3 H5 fun c H6 =>
        if c = true then te σ3 H6 fun y H7 => ∃ acc, H7 D = some (.lst acc) ∧ acc.length < sizeLine ∧ Nx1 (upd H7 D (.lst (acc ++ [y]))) else Nx1 H6) := by
  refine ⟨fun j m H => m = ys.length - j ∧ j ≤ ys.length ∧ Pv j H, ⟨ys.length, by simp, Nat.zero_le _, h0⟩, ?_⟩
  rintro j m H ⟨rfl, hj, p⟩
  have q := hl j H hj p
  rcases Nat.lt_or_ge j ys.length with c | c
  · exact .inr ⟨⟨ys, ys[j], q, List.getElem?_eq_getElem c⟩, Pv (j + 1), fun H' p' => ⟨ys.length - (j + 1), by omega, rfl, c, p'⟩, fun x H' y => by rw [y.1]; exact hs j x H (y.2 ys q) p⟩
  · have e : j = ys.length := Nat.le_antisymm hj c
    rw [e] at p
    exact .inl ⟨⟨ys, q, c⟩, hd H p⟩
theorem in_ints (k : Int) : ∀ ns : List Int, inV (.int k) (ns.map V.int) = decide (k ∈ ns)
  | [] => by simp [inV]
  | n :: ns => by
    have ih := in_ints k ns
    unfold inV at ih ⊢
    rw [List.map_cons, List.any_cons, ih]
    show ((n == k) || _) = _
    by_cases c : n = k
    · subst c
      simp
    · have c2 : k ≠ n := fun z => c z.symm
      simp [c, c2]
theorem flat_ints : ∀ ns : List Int, (ns.map V.int).all flatV = true
  | [] => rfl
  | _ :: ns => by
    rw [List.map_cons, List.all_cons, flat_ints ns]
    rfl
theorem cal_acc (T : Txt K mg cA0 PA0 cA1 PA1) : C8.Cal P w K mg base 2 "_law_accepts" (spAcc K) [] := by
  have C_law_lives : C8.Cal P w K mg base 1 "_law_lives" spLives [] := cal_lives T
  obtain ⟨f, fd, F, hm, hb⟩ := T.h_law_accepts
  refine ⟨f, fd, _, [], F.ok sc_law_accepts (fun vs H Q E h => ?_) (fun cdv A outer s H vs Q E hr h => ?_), hm, F.kp, hb, .nil⟩
  · obtain ⟨R, I, A, p, rows, ini, acc, h, l, wd, rfl, _⟩ := h
    rfl
  · obtain ⟨R, I, A, p, rows, ini, acc, h, l, wd, rfl, hR, hI, hA, hlas, hne, hh, hl, hrl, hil, hini, hw, hrs, q⟩ := h
    refine ⟨_, (pss_cons
      (ps_set (i := 4) sc_law_accepts.nd rfl (Or.inl rfl) (pe_op op_cat (pe_callTy (call_list_ofK (K := K) rfl) (by rfl) T.z_list (by decide +kernel) (pa_cons (pe_ix (ix_tupK (K := K) rfl) (pv 3) pe_int (fun _ _ => rfl)) pa_nil)) (pe_callTy (call_list_ofK (K := K) rfl) (by rfl) T.z_list (by decide +kernel) (pa_cons (pe_ix (ix_tupK (K := K) rfl) (pv 3) pe_int (fun _ _ => rfl)) pa_nil))))
      (pss_cons
      (ps_set (i := 5) sc_law_accepts.nd rfl (Or.inr rfl) (pe_callB (call_lenK (K := K) rfl) (by rfl) T.z_len PySem.boot_len (pa_cons (pv 4) pa_nil)))
      (pss_cons
      (ps_set (i := 6) sc_law_accepts.nd rfl (Or.inl rfl) (pe_lst pa_nil))
      (pss_cons
      (ps_set (i := 7) sc_law_accepts.nd rfl (Or.inl rfl) (pe_lst pa_nil))
      (pss_cons
      (ps_for PassesOwn.never rfl (pi_range1 (by rfl) T.z_range (pa_cons (pe_callB (call_lenK (K := K) rfl) (by rfl) T.z_len PySem.boot_len (pa_cons (pv 0) pa_nil)) pa_nil)) (pg_name (i := 8) sc_law_accepts.nd rfl (.inl rfl)) (pss_one
      (ps_for PassesOwn.never rfl (pi_range1 (by rfl) T.z_range (pa_cons (pv 5) pa_nil)) (pg_name (i := 9) sc_law_accepts.nd rfl (.inl rfl)) (pss_cons
      (ps_set (i := 10) sc_law_accepts.nd rfl (Or.inr rfl) (pe_op op_add (pv 9) pe_int))
      (C8.pss_cut
      (ps_if (pt_cmpR op_eq (pv 10) (pv 5) (nomark _)) (pss_one
      (ps_set (i := 10) sc_law_accepts.nd rfl (Or.inr rfl) (pe_callB (call_lenK (K := K) rfl) (by rfl) T.z_len PySem.boot_len (pa_cons (pe_ix (ix_tupK (K := K) rfl) (pv 3) pe_int (fun _ _ => rfl)) pa_nil)))) pss_nil)
      (pss_cons
      (ps_expr (pe_bm PySem.F.plainAttrs_list PySem.F.slot_list_append PySem.F.type_list_append mt_append (pv 6) (pa_cons (pe_lc (own := [("target", 11)]) (g := gName 11) (tt := tYes) rfl sc_law_accepts.nd (pi_seq (K := K) rfl (pe_ix (ix_seqK (K := K) rfl) (pe_ix (ix_seqK (K := K) rfl) (pv 0) (pv 8) (fun _ _ => rfl)) (pe_ix (ix_listK (K := K) rfl) (pv 4) (pv 9) (fun _ _ => rfl)) (fun _ _ => rfl))) (blkOk_by (N := N_law_accepts) (sc := defScope s_law_accepts) (by decide +kernel)) (fun _ _ _ _ _ => (pg_name (i := 11) sc_law_accepts.nd rfl (Or.inl rfl))) (fun _ _ _ _ _ => pts_nil) (fun _ _ _ _ _ => (pe_op op_add (pe_op op_mul (pv 11) (pv 5)) (pv 10)))) pa_nil)))
      (pss_one
      (ps_expr (pe_bm PySem.F.plainAttrs_list PySem.F.slot_list_append PySem.F.type_list_append mt_append (pv 7) (pa_cons (pe_cmpR (op_inK (K := K) rfl) (pv 8) (pv 2) (by rfl)) pa_nil))))))))))
      (pss_one
      (ps_ret (C8.pe_c C_law_lives hr (by decide) (by rfl) (pa_cons (pv 6) (pa_cons (pv 7) (pa_cons (pe_lc (own := [("state", 8)]) (g := gName 8) (tt := tYes) rfl sc_law_accepts.nd (pi_seq (K := K) rfl (pv 1)) (blkOk_by (N := N_law_accepts) (sc := defScope s_law_accepts) (by decide +kernel)) (fun _ _ _ _ _ => (pg_name (i := 8) sc_law_accepts.nd rfl (Or.inl rfl))) (fun _ _ _ _ _ => pts_nil) (fun _ _ _ _ _ => (pe_op op_mul (pv 8) (pv 5)))) pa_nil))))))))))), ?_⟩
    obtain ⟨xs, hRx, hxl, hxs⟩ := hR
    obtain ⟨a1, b1, e1, e2, e3⟩ := hlas
    have hL : 0 < l.length := List.length_pos_iff.mpr hne
    refine ⟨_, rfl, p, _, _, _, rfl, rfl, .of e1, rfl, a1, _, rfl, .inr (.of e2), fun p1 n1 => ?_⟩
    have s1 := same_new (o := .lst (h.map V.int)) n1
    refine ⟨_, rfl, p, _, _, _, rfl, rfl, .of (s1 _ _ e1), rfl, b1, _, rfl, .inr (.of (s1 _ _ e3)), fun p2 n2 => ?_⟩
    have s2 := same_new (o := .lst (l.map V.int)) n2
    refine ⟨p1, p2, _, _, rfl, rfl, s2 _ _ upd_same, upd_same, by rw [List.length_map, List.length_map]; exact Nat.le_trans (show h.length + l.length ≤ 200 by omega) (by decide), fun p3 n3 => ?_⟩
    rw [← List.map_append]
    have s3 := same_new (o := .lst ((h ++ l).map V.int)) n3
    have s03 := (s1.trans s2).trans s3
    have ep3 := upd_same (H := upd (upd H p1 (.lst (h.map V.int))) p2 (.lst (l.map V.int))) (a := p3) (o := .lst ((h ++ l).map V.int))
    have p30 : H p3 = none := (s1.trans s2).free n3
    generalize upd (upd (upd H p1 (.lst (h.map V.int))) p2 (.lst (l.map V.int))) p3 (.lst ((h ++ l).map V.int)) = H3 at s03 ep3 ⊢
    refine ⟨_, rfl, p3, _, rfl, .inl (.of ep3), ?_⟩
    rw [List.length_map, List.length_append]
    obtain ⟨sz, hsz⟩ : ∃ sz, h.length + l.length = sz := ⟨_, rfl⟩
    rw [hsz]
    have hsz0 : 0 < sz := by omega
    refine ⟨Nat.zero_le _, fun mo nmo => ⟨Nat.zero_le _, fun go ngo => ?_⟩⟩
    have s4 := same_new (o := .lst []) nmo
    have s5 := same_new (o := .lst []) ngo
    have s05 := (s03.trans s4).trans s5
    have mo0 : H mo = none := s03.free nmo
    have go0 : H go = none := (s03.trans s4).free ngo
    have emo := s5 _ _ (upd_same (H := H3) (a := mo) (o := .lst []))
    have ego := upd_same (H := upd H3 mo (.lst [])) (a := go) (o := .lst [])
    have ep3' := (s4.trans s5) _ _ ep3
    have mg' : mo ≠ go := fun z => by
      rw [← z, upd_same] at ngo
      cases ngo
    have p3m : p3 ≠ mo := fun z => by
      rw [← z, ep3] at nmo
      cases nmo
    have p3g : p3 ≠ go := fun z => by
      have := s4 _ _ ep3
      rw [z, ngo] at this
      cases this
    generalize upd (upd H3 mo (.lst [])) go (.lst []) = H5 at s05 emo ego ep3' ⊢
    clear s1 s2 s3 s4 s5 s03 ep3 n1 n2 n3 nmo ngo
    have St : ∀ m : Nat, Hp → Prop := fun m H' => Same H H' ∧ H' p3 = some (.lst ((h ++ l).map V.int)) ∧ ∃ as : List Addr, H' mo = some (.lst (as.map V.ref)) ∧ as.length = m ∧ (∀ (k : Nat) (a : Addr), as[k]? = some a → a ≠ mo ∧ a ≠ go ∧ H' a = some (.lst ((mvF rows h l k).map V.int))) ∧ ArrB H' go m (goF acc h l)
    clear St
    obtain ⟨St, hSt⟩ : ∃ St : Nat → Hp → Prop, St = fun m H' => Same H H' ∧ H' p3 = some (.lst ((h ++ l).map V.int)) ∧ ∃ as : List Addr, H' mo = some (.lst (as.map V.ref)) ∧ as.length = m ∧ (∀ (k : Nat) (a : Addr), as[k]? = some a → a ≠ mo ∧ a ≠ go ∧ H' a = some (.lst ((mvF rows h l k).map V.int))) ∧ ArrB H' go m (goF acc h l) := ⟨_, rfl⟩
    have st0 : St 0 H5 := by
      rw [hSt]
      exact ⟨s05, ep3', [], emo, rfl, (fun k a e => by cases e), ego⟩
    have lr : (((xs.length : Nat) : Int)).toNat = rows.length := by omega
    refine ⟨_, rfl, R, _, rfl, sq_same' s05 hRx, _, rfl, by omega, by omega, ?_⟩
    rw [lr]
    refine for_range (lo := 0) (n := rows.length) (fun i σ H6 => ∃ (v8 v9 v10 v11 : Option V), σ = [some (.ref R), some (.ref I), some (.ref A), some (.ref p), some (.ref p3), some (.int (sz : Nat)), some (.ref mo), some (.ref go), v8, v9, v10, v11] ∧ St (i * sz) H6) ⟨none, none, none, none, rfl, by rw [Nat.zero_mul]; exact st0⟩ ?_ ?_
    · clear st0 s05 emo ego ep3'
      rintro i σ H6 hi ⟨v8, v9, v10, v11, rfl, st⟩
      refine ⟨_, rfl, _, rfl, by omega, by omega, ?_⟩
      rw [Int.toNat_natCast]
      refine for_range (lo := 0) (n := sz) (fun j σ H6 => ∃ (v9 v10 v11 : Option V), σ = [some (.ref R), some (.ref I), some (.ref A), some (.ref p), some (.ref p3), some (.int (sz : Nat)), some (.ref mo), some (.ref go), some (.int (0 + (i : Int))), v9, v10, v11] ∧ St (i * sz + j) H6) ⟨_, _, _, rfl, st⟩ ?_ ?_
      · clear st
        rintro j σ H6 hj ⟨v9, v10, v11, rfl, st⟩
        have hk : i * sz + j < rows.length * sz := by
          have := Nat.mul_le_mul_right sz (show i + 1 ≤ rows.length by omega)
          rw [Nat.add_mul, Nat.one_mul] at this
          omega
        have hdv : (i * sz + j) / sz = i := by rw [Nat.mul_comm, Nat.mul_add_div hsz0, Nat.div_eq_of_lt hj, Nat.add_zero]
        have hmd : (i * sz + j) % sz = j := by rw [Nat.mul_comm, Nat.mul_add_mod, Nat.mod_eq_of_lt hj]
        have el := ent_lim hw hrs (by omega) (k := i * sz + j) (by rw [hsz]; exact hk)
        rw [hsz, hdv, hmd] at el
        obtain ⟨row, z, hrow, hz, z0, hent, elen, elim⟩ := el
        rw [hSt] at st ⊢
        obtain ⟨s6, ep3, as, emo, hal, hak, ego⟩ := st
        refine ⟨_, rfl, _, _, rfl, rfl, ?_⟩
        refine ⟨fun σ H7 => σ = [some (.ref R), some (.ref I), some (.ref A), some (.ref p), some (.ref p3), some (.int (sz : Nat)), some (.ref mo), some (.ref go), some (.int (0 + (i : Int))), some (.int (0 + (j : Int))), some (.int (aft h l j)), v11] ∧ H6 = H7, ?_, ?_⟩
        · refine ⟨_, rfl, _, rfl, rfl, _, rfl, ite_eq (fun c => ?_) (fun c => ?_)⟩
          · refine ⟨_, rfl, p, _, _, _, rfl, rfl, .of (s6 _ _ e1), rfl, a1, _, rfl, .inr (.of (s6 _ _ e2)), ?_, rfl⟩
            have e : aft h l j = (h.length : Int) := by
              unfold aft
              rw [if_pos (by omega)]
            rw [e, List.length_map]
            rfl
          · refine ⟨?_, rfl⟩
            have e : aft h l j = 0 + (j : Int) + 1 := by
              unfold aft
              rw [if_neg (by omega)]
              omega
            rw [e]
            rfl
        · rintro σ H7 ⟨rfl, rfl⟩
          obtain ⟨vr, hrow', a2, xs2, rfl, hrx, hx2l, hx2⟩ := hxs i row hrow
          obtain ⟨b, hbx, hbi⟩ := hx2 _ _ hent
          have hjm : as.length < sizeLine := by
            rw [hal]
            have h1 : rows.length * sz ≤ 100 * 200 := Nat.mul_le_mul hrl (by omega)
            exact Nat.lt_of_lt_of_le (show i * sz + j < 100 * 200 + 1 by omega) (by decide)
          rcases hbi with hb0 | hb0
          · refine ⟨_, rfl, .inl ⟨rfl, _, .of emo⟩, ?_⟩
            refine .inl ⟨_, rfl, _, rfl, rix (sq_same' s6 hRx) (by rw [Int.zero_add]; exact atI_nat hrow') ⟨_, rfl, _, rfl, p3, _, _, .int z, rfl, rfl, .of ep3, (by rw [Int.zero_add]; exact atI_nat (by rw [List.getElem?_map, hz]; rfl)), rix (sq_same' s6 hrx) (v := .ref b) (by rw [show z = ((z.toNat : Nat) : Int) by omega]; exact atI_nat hbx) ?_⟩⟩
            refine ⟨b, rfl, ⟨_, s6.seq hb0⟩, fun D hD => lc_list (K := K) (a := b) (xs := (ent rows h l (i * sz + j)).map V.int) (fun q H7 => Same H6 H7 ∧ H7 D = some (.lst ((((ent rows h l (i * sz + j)).take q).map fun t => t * ((sz : Nat) : Int) + aft h l j).map V.int))) ⟨same_new hD, upd_same⟩ (fun q H7 _ ⟨s7, _⟩ => (s6.trans s7).seq hb0) ?_ ?_⟩
            · rintro q y H7 hy ⟨s7, e7⟩
              obtain ⟨t, ht, rfl⟩ : ∃ t, (ent rows h l (i * sz + j))[q]? = some t ∧ y = V.int t := by
                rw [List.getElem?_map] at hy
                cases e : (ent rows h l (i * sz + j))[q]? with
                | none => rw [e] at hy; cases hy
                | some t => rw [e] at hy; exact ⟨t, rfl, (Option.some.inj hy).symm⟩
              have hql := (List.getElem?_eq_some_iff.mp ht).1
              have hcm : -(2 ^ 64) < ((sz : Nat) : Int) ∧ ((sz : Nat) : Int) < 2 ^ 64 := by
                have : sz ≤ 200 := by omega
                constructor <;> omega
              refine ⟨rfl, _, rfl, _, rfl, _, _, rfl, rfl, .inr hcm, _, rfl, _, _, rfl, rfl, _, e7, by rw [List.length_map, List.length_map, List.length_take]; exact Nat.lt_of_le_of_lt (show min q (ent rows h l (i * sz + j)).length ≤ 100000 by omega) (by decide), fun c u hc => ?_, ?_⟩
              · rw [upd_ne (ne_of_none hc hD)]
                exact s7 _ _ hc
              · rw [upd_same, List.take_add_one, ht, Option.toList_some, List.map_append, List.map_append]
                rfl
            · rintro H7 ⟨s7, e7⟩
              rw [List.length_map, List.take_length] at e7
              have Dm : D ≠ mo := fun z => by rw [z, emo] at hD; cases hD
              have Dg : D ≠ go := fun z => by
                unfold ArrB at ego
                rw [z, ego] at hD
                cases hD
              have Dp : p3 ≠ D := fun z => by rw [← z, ep3] at hD; cases hD
              have e7' : H7 D = some (.lst ((mvF rows h l (i * sz + j)).map V.int)) := by
                rw [e7]
                unfold mvF
                rw [hsz, hmd]
              have eg7 := s7 _ _ (show H6 go = _ from ego)
              refine ⟨mo, _, _, rfl, rfl, s7 _ _ emo, by rw [List.length_map]; exact hjm, ?_⟩
              have k8 : Kp mo H7 (upd H7 mo (.lst (as.map V.ref ++ [.ref D]))) := Kp.own
              have eg8 := k8 _ _ mg'.symm eg7
              refine ⟨_, rfl, .inl ⟨rfl, _, .of eg8⟩, _, rfl, _, rfl, A, _, rfl, sq_same' (fun c u hc => k8 _ _ (ne_of_none hc mo0) (s7 _ _ (s6 _ _ hc))) hA, rfl, flat_ints acc, go, _, _, rfl, rfl, eg8, by rw [arrb_len, ← hal]; exact hjm, ?_⟩
              have k9 : Kp go (upd H7 mo (.lst (as.map V.ref ++ [.ref D]))) (upd (upd H7 mo (.lst (as.map V.ref ++ [.ref D]))) go (.lst (((List.range (i * sz + j)).map fun t => V.bl (goF acc h l t)) ++ [.bl (inV (.int (0 + (i : Int))) (acc.map V.int))]))) := Kp.own
              refine ⟨_, _, _, rfl, fun c u hc => k9 _ _ (ne_of_none hc go0) (k8 _ _ (ne_of_none hc mo0) (s7 _ _ (s6 _ _ hc))), k9 _ _ p3g (k8 _ _ p3m (s7 _ _ ep3)), as ++ [D], ?_, by rw [List.length_append, hal]; rfl, fun k a hka => ?_, ?_⟩
              · rw [List.map_append]
                exact k9 _ _ mg' upd_same
              · rcases Nat.lt_or_ge k as.length with y | y
                · rw [List.getElem?_append_left y] at hka
                  obtain ⟨a3, a4, a5⟩ := hak k a hka
                  exact ⟨a3, a4, k9 _ _ a4 (k8 _ _ a3 (s7 _ _ a5))⟩
                · rw [List.getElem?_append_right y] at hka
                  have y2 : k - as.length = 0 := by
                    cases e : k - as.length with
                    | zero => rfl
                    | succ m => rw [e] at hka; cases hka
                  rw [y2] at hka
                  cases hka
                  have y3 : k = i * sz + j := by omega
                  rw [y3]
                  exact ⟨Dm, Dg, k9 _ _ Dg (k8 _ _ Dm e7')⟩
              · unfold ArrB
                have er : List.range (i * sz + (j + 1)) = List.range (i * sz + j) ++ [i * sz + j] := List.range_succ
                rw [upd_same, er, List.map_append]
                show some (HO.lst (_ ++ [V.bl (inV (.int (0 + (i : Int))) (acc.map V.int))])) = _
                rw [in_ints]
                have eg : goF acc h l (i * sz + j) = decide ((0 + (i : Int)) ∈ acc) := by
                  unfold goF
                  rw [hsz, hdv, Int.zero_add]
                rw [← eg]
                rfl
          · refine ⟨_, rfl, .inl ⟨rfl, _, .of emo⟩, ?_⟩
            refine .inr ⟨_, rfl, _, rfl, rix (sq_same' s6 hRx) (by rw [Int.zero_add]; exact atI_nat hrow') ⟨_, rfl, _, rfl, p3, _, _, .int z, rfl, rfl, .of ep3, (by rw [Int.zero_add]; exact atI_nat (by rw [List.getElem?_map, hz]; rfl)), rix (sq_same' s6 hrx) (v := .ref b) (by rw [show z = ((z.toNat : Nat) : Int) by omega]; exact atI_nat hbx) ?_⟩⟩
            refine ⟨b, rfl, ⟨_, sqt_same s6 hb0⟩, fun D hD => lc_tup (K := K) (a := b) (xs := (ent rows h l (i * sz + j)).map V.int) (fun q H7 => Same H6 H7 ∧ H7 D = some (.lst ((((ent rows h l (i * sz + j)).take q).map fun t => t * ((sz : Nat) : Int) + aft h l j).map V.int))) ⟨same_new hD, upd_same⟩ (fun q H7 _ ⟨s7, _⟩ => sqt_same (s6.trans s7) hb0) ?_ ?_⟩
            · rintro q y H7 hy ⟨s7, e7⟩
              obtain ⟨t, ht, rfl⟩ : ∃ t, (ent rows h l (i * sz + j))[q]? = some t ∧ y = V.int t := by
                rw [List.getElem?_map] at hy
                cases e : (ent rows h l (i * sz + j))[q]? with
                | none => rw [e] at hy; cases hy
                | some t => rw [e] at hy; exact ⟨t, rfl, (Option.some.inj hy).symm⟩
              have hql := (List.getElem?_eq_some_iff.mp ht).1
              have hcm : -(2 ^ 64) < ((sz : Nat) : Int) ∧ ((sz : Nat) : Int) < 2 ^ 64 := by
                have : sz ≤ 200 := by omega
                constructor <;> omega
              refine ⟨rfl, _, rfl, _, rfl, _, _, rfl, rfl, .inr hcm, _, rfl, _, _, rfl, rfl, _, e7, by rw [List.length_map, List.length_map, List.length_take]; exact Nat.lt_of_le_of_lt (show min q (ent rows h l (i * sz + j)).length ≤ 100000 by omega) (by decide), fun c u hc => ?_, ?_⟩
              · rw [upd_ne (ne_of_none hc hD)]
                exact s7 _ _ hc
              · rw [upd_same, List.take_add_one, ht, Option.toList_some, List.map_append, List.map_append]
                rfl
            · rintro H7 ⟨s7, e7⟩
              rw [List.length_map, List.take_length] at e7
              have Dm : D ≠ mo := fun z => by rw [z, emo] at hD; cases hD
              have Dg : D ≠ go := fun z => by
                unfold ArrB at ego
                rw [z, ego] at hD
                cases hD
              have Dp : p3 ≠ D := fun z => by rw [← z, ep3] at hD; cases hD
              have e7' : H7 D = some (.lst ((mvF rows h l (i * sz + j)).map V.int)) := by
                rw [e7]
                unfold mvF
                rw [hsz, hmd]
              have eg7 := s7 _ _ (show H6 go = _ from ego)
              refine ⟨mo, _, _, rfl, rfl, s7 _ _ emo, by rw [List.length_map]; exact hjm, ?_⟩
              have k8 : Kp mo H7 (upd H7 mo (.lst (as.map V.ref ++ [.ref D]))) := Kp.own
              have eg8 := k8 _ _ mg'.symm eg7
              refine ⟨_, rfl, .inl ⟨rfl, _, .of eg8⟩, _, rfl, _, rfl, A, _, rfl, sq_same' (fun c u hc => k8 _ _ (ne_of_none hc mo0) (s7 _ _ (s6 _ _ hc))) hA, rfl, flat_ints acc, go, _, _, rfl, rfl, eg8, by rw [arrb_len, ← hal]; exact hjm, ?_⟩
              have k9 : Kp go (upd H7 mo (.lst (as.map V.ref ++ [.ref D]))) (upd (upd H7 mo (.lst (as.map V.ref ++ [.ref D]))) go (.lst (((List.range (i * sz + j)).map fun t => V.bl (goF acc h l t)) ++ [.bl (inV (.int (0 + (i : Int))) (acc.map V.int))]))) := Kp.own
              refine ⟨_, _, _, rfl, fun c u hc => k9 _ _ (ne_of_none hc go0) (k8 _ _ (ne_of_none hc mo0) (s7 _ _ (s6 _ _ hc))), k9 _ _ p3g (k8 _ _ p3m (s7 _ _ ep3)), as ++ [D], ?_, by rw [List.length_append, hal]; rfl, fun k a hka => ?_, ?_⟩
              · rw [List.map_append]
                exact k9 _ _ mg' upd_same
              · rcases Nat.lt_or_ge k as.length with y | y
                · rw [List.getElem?_append_left y] at hka
                  obtain ⟨a3, a4, a5⟩ := hak k a hka
                  exact ⟨a3, a4, k9 _ _ a4 (k8 _ _ a3 (s7 _ _ a5))⟩
                · rw [List.getElem?_append_right y] at hka
                  have y2 : k - as.length = 0 := by
                    cases e : k - as.length with
                    | zero => rfl
                    | succ m => rw [e] at hka; cases hka
                  rw [y2] at hka
                  cases hka
                  have y3 : k = i * sz + j := by omega
                  rw [y3]
                  exact ⟨Dm, Dg, k9 _ _ Dg (k8 _ _ Dm e7')⟩
              · unfold ArrB
                have er : List.range (i * sz + (j + 1)) = List.range (i * sz + j) ++ [i * sz + j] := List.range_succ
                rw [upd_same, er, List.map_append]
                show some (HO.lst (_ ++ [V.bl (inV (.int (0 + (i : Int))) (acc.map V.int))])) = _
                rw [in_ints]
                have eg : goF acc h l (i * sz + j) = decide ((0 + (i : Int)) ∈ acc) := by
                  unfold goF
                  rw [hsz, hdv, Int.zero_add]
                rw [← eg]
                rfl
      · rintro σ H6 ⟨v9, v10, v11, rfl, st⟩
        exact ⟨_, _, _, _, rfl, by rw [Nat.add_mul, Nat.one_mul]; exact st⟩
    · clear st0 s05 emo ego ep3'
      rintro σ H6 ⟨v8, v9, v10, v11, rfl, st⟩
      rw [hSt] at st
      obtain ⟨s6, ep3, as, emo, hal, hak, ego⟩ := st
      have hcm : -(2 ^ 64) < ((sz : Nat) : Int) ∧ ((sz : Nat) : Int) < 2 ^ 64 := by
        have : sz ≤ 200 := by omega
        constructor <;> omega
      have fin : ∀ (H7 : Hp) (D : Addr), Same H6 H7 → H7 D = some (.lst ((ini.map fun s => s * ((sz : Nat) : Int)).map V.int)) → spLives [.ref mo, .ref go, .ref D] H7 Q C8.E0 := fun H7 D s7 e7 => by
        refine ⟨mo, go, D, as, mvF rows h l, goF acc h l, rows.length * sz, ini.map fun s => s * ((sz : Nat) : Int), rfl, ⟨s7 _ _ emo, hal, fun k a e => s7 _ _ (hak k a e).2.2, fun k hk => ?_⟩, s7 _ _ (show H6 go = _ from ego), e7, ?_, fun s hs => ?_, fun H' s8 => ?_⟩
        · obtain ⟨row, z, _, _, _, _, el1, el2⟩ := ent_lim hw hrs (by omega) (k := k) (by rw [hsz]; exact hk)
          refine ⟨by unfold mvF; rw [List.length_map]; exact el1, fun t ht => ?_⟩
          unfold mvF at ht
          obtain ⟨t', ht', rfl⟩ := List.mem_map.mp ht
          obtain ⟨t0, t1⟩ := el2 t' ht'
          have := aft_lim (h := h) hne (k % (h.length + l.length)) (Nat.mod_lt _ (by omega))
          rw [hsz] at this ⊢
          rw [Int.natCast_mul]
          exact mul_lim t0 t1 this.1 this.2
        · have : rows.length * sz ≤ 100 * 200 := Nat.mul_le_mul hrl (by omega)
          omega
        · obtain ⟨s', hs', rfl⟩ := List.mem_map.mp hs
          obtain ⟨t0, t1⟩ := hini s' hs'
          have := mul_lim t0 t1 (a := 0) (s := sz) (by omega) (by omega)
          rw [Int.add_zero] at this
          rw [Int.natCast_mul]
          exact this
        · have e : accV rows ini acc h l = lives (mvF rows h l) (goF acc h l) (rows.length * sz) (ini.map fun s => s * ((sz : Nat) : Int)) := by
            unfold accV
            rw [hsz]
          rw [← e]
          exact q H' ((s6.trans s7).trans s8)
      rcases hI with hI | hI
      · refine ⟨_, rfl, _, rfl, ?_⟩
        refine .inl ⟨_, rfl, I, rfl, ⟨_, s6.seq hI⟩, fun D hD => lc_list (K := K) (a := I) (xs := ini.map V.int) (fun q H7 => Same H6 H7 ∧ H7 D = some (.lst (((ini.take q).map fun s => s * ((sz : Nat) : Int)).map V.int))) ⟨same_new hD, upd_same⟩ (fun q H7 _ ⟨s7, _⟩ => (s6.trans s7).seq hI) ?_ ?_⟩
        · rintro q y H7 hy ⟨s7, e7⟩
          obtain ⟨t, ht, rfl⟩ : ∃ t, ini[q]? = some t ∧ y = V.int t := by
            rw [List.getElem?_map] at hy
            cases e : ini[q]? with
            | none => rw [e] at hy; cases hy
            | some t => rw [e] at hy; exact ⟨t, rfl, (Option.some.inj hy).symm⟩
          have hql := (List.getElem?_eq_some_iff.mp ht).1
          refine ⟨rfl, _, rfl, _, rfl, _, _, rfl, rfl, .inr hcm, _, e7, by rw [List.length_map, List.length_map, List.length_take]; exact Nat.lt_of_le_of_lt (show min q ini.length ≤ 1000 by omega) (by decide), fun c u hc => ?_, ?_⟩
          · rw [upd_ne (ne_of_none hc hD)]
            exact s7 _ _ hc
          · rw [upd_same, List.take_add_one, ht, Option.toList_some, List.map_append, List.map_append]
            rfl
        · rintro H7 ⟨s7, e7⟩
          rw [List.length_map, List.take_length] at e7
          exact fin H7 D s7 e7
      · refine ⟨_, rfl, _, rfl, ?_⟩
        refine .inr ⟨_, rfl, I, rfl, ⟨_, sqt_same s6 hI⟩, fun D hD => lc_tup (K := K) (a := I) (xs := ini.map V.int) (fun q H7 => Same H6 H7 ∧ H7 D = some (.lst (((ini.take q).map fun s => s * ((sz : Nat) : Int)).map V.int))) ⟨same_new hD, upd_same⟩ (fun q H7 _ ⟨s7, _⟩ => sqt_same (s6.trans s7) hI) ?_ ?_⟩
        · rintro q y H7 hy ⟨s7, e7⟩
          obtain ⟨t, ht, rfl⟩ : ∃ t, ini[q]? = some t ∧ y = V.int t := by
            rw [List.getElem?_map] at hy
            cases e : ini[q]? with
            | none => rw [e] at hy; cases hy
            | some t => rw [e] at hy; exact ⟨t, rfl, (Option.some.inj hy).symm⟩
          have hql := (List.getElem?_eq_some_iff.mp ht).1
          refine ⟨rfl, _, rfl, _, rfl, _, _, rfl, rfl, .inr hcm, _, e7, by rw [List.length_map, List.length_map, List.length_take]; exact Nat.lt_of_le_of_lt (show min q ini.length ≤ 1000 by omega) (by decide), fun c u hc => ?_, ?_⟩
          · rw [upd_ne (ne_of_none hc hD)]
            exact s7 _ _ hc
          · rw [upd_same, List.take_add_one, ht, Option.toList_some, List.map_append, List.map_append]
            rfl
        · rintro H7 ⟨s7, e7⟩
          rw [List.length_map, List.take_length] at e7
          exact fin H7 D s7 e7
def spChecksS (cI : Addr) : Sp := fun vs H Q E => ∃ (a : Addr) (xs : List Int) (n : Int), vs = [.ref a, .int n] ∧ SeqV H a (xs.map V.int) ∧ (¬ Asc n xs → E (.ref cI) none H) ∧ (Asc n xs → Q .non H)
theorem cal_checksS {cI : Addr} (T : Txt K mg cA0 PA0 cA1 PA1) (eI : ErrC K mg "InvalidAutomaton" cI) : CalX P w K mg base 1 "check_states" (spChecksS cI) := by
  obtain ⟨f, fd, F, hm, hb⟩ := T.h_check_states
  refine ⟨f, fd, _, F.okX sc_check_states (fun vs H Q E h => ?_) (fun cdv A outer s H vs Q E hr h => ?_), hm, F.kp, hb⟩
  · obtain ⟨a, xs, n, rfl, _⟩ := h
    rfl
  · obtain ⟨a, xs, n, rfl, ha, q1, q2⟩ := h
    refine ⟨_, (pss_cons
      (ps_set (i := 2) sc_check_states.nd rfl (Or.inl rfl) (pe_un un_neg pe_int))
      (pss_one
      (ps_for (passes_of rfl) rfl (pi_seq (K := K) rfl (pv 0)) (pg_name (i := 3) sc_check_states.nd rfl (.inl rfl)) (pss_cons
      (ps_if (PW.pt (pw_or (pt_cmpR op_le (pv 3) (pv 2) (nomark _)) (pw_or1 (pt_cmpR op_ge (pv 3) (pv 1) (nomark _))))) (pss_one
      (ps_raise rfl (takes_of rfl rfl rfl rfl) (eI.made rfl))) pss_nil)
      (pss_one
      (ps_set (i := 2) sc_check_states.nd rfl (Or.inl rfl) (pv 3))))))), ?_⟩
    refine ⟨_, rfl, ?_⟩
    refine for_seq (a := a) (xs := xs.map V.int) rfl ha (fun i σ H' => ∃ (b : Int) (v : Option V), σ = [some (.ref a), some (.int n), some (.int b), v] ∧ H' = H ∧ Asc n (xs.take i) ∧ -1 ≤ b ∧ (∀ x ∈ xs.take i, x ≤ b) ∧ (b = -1 ∨ b ∈ xs.take i))
      ⟨-1, none, rfl, rfl, ⟨by simp, by simp⟩, by omega, by simp, .inl rfl⟩ (fun i σ H' ⟨_, _, _, z, _⟩ => by rw [z]; exact Same.refl _) ?_ ?_
    · rintro i y σ H' hi ⟨b, v, rfl, rfl, hA, hb1, hle, hor⟩
      obtain ⟨z, hz, rfl⟩ := ints_get hi
      have cutE : xs = xs.take i ++ z :: xs.drop (i + 1) := by
        conv => lhs; rw [← List.take_append_drop i xs]
        congr 1
        exact List.drop_eq_getElem?_toList_append.trans (by rw [hz]; rfl)
      refine ⟨_, rfl, _, rfl, _, _, rfl, rfl, _, rfl, ite2 (fun c => ?_) (fun c => ?_)⟩
      · have c := of_decide_eq_true c
        refine q1 fun hasc => ?_
        have hz0 := (hasc.2 z (List.mem_of_getElem? hz)).1
        rcases hor with u | u
        · omega
        · have hp := hasc.1
          rw [cutE] at hp
          have := (List.pairwise_append.mp hp).2.2 b u z List.mem_cons_self
          omega
      have c1 : ¬ z ≤ b := fun u => c (decide_eq_true u)
      refine ⟨_, rfl, _, rfl, _, _, rfl, rfl, _, rfl, ite2 (fun c => ?_) (fun c => ?_)⟩
      · have c := of_decide_eq_true c
        refine q1 fun hasc => ?_
        have := (hasc.2 z (List.mem_of_getElem? hz)).2
        omega
      have c2 : ¬ n ≤ z := fun u => c (decide_eq_true u)
      refine ⟨_, rfl, z, _, rfl, rfl, ⟨?_, fun x hx => ?_⟩, by omega, fun x hx => ?_, .inr (by rw [take_get hz]; simp)⟩
      · rw [take_get hz]
        refine List.pairwise_append.mpr ⟨hA.1, by simp, fun x hx y hy => ?_⟩
        rw [List.mem_singleton.mp hy]
        have := hle x hx
        omega
      · rw [take_get hz] at hx
        rcases List.mem_append.mp hx with u | u
        · exact hA.2 x u
        · rw [List.mem_singleton.mp u]
          omega
      · rw [take_get hz] at hx
        rcases List.mem_append.mp hx with u | u
        · have := hle x u
          omega
        · rw [List.mem_singleton.mp u]
          exact Int.le_refl _
    · rintro σ H' ⟨b, v, rfl, rfl, hA, _⟩
      rw [List.length_map, List.take_length] at hA
      exact q2 hA
structure LCs (H : Hp) (r : Addr) (as : List Addr) (c : List (List (List Int))) : Prop where
  at_ : H r = some (.lst (as.map V.ref))
  len : as.length = c.length
  g : ∀ (i : Nat) (a : Addr), as[i]? = some a → ∃ (bs : List Addr) (row : List (List Int)), c[i]? = some row ∧ H a = some (.lst (bs.map V.ref)) ∧ bs.length = row.length ∧ ∀ (j : Nat) (b : Addr), bs[j]? = some b → ∃ e, row[j]? = some e ∧ SeqV H b (e.map V.int)
theorem sq_nx {H : Hp} {x a C dx : Addr} {f : List (Str × V)} {xs : List V} (hx : H x = some (.ins C dx f)) (h : SeqV H a xs) : a ≠ x := fun z => by
  rw [z] at h
  rcases h with h | h
  · rw [hx] at h
    cases h
  · rw [hx] at h
    cases h
theorem LCs.kp {H H' : Hp} {x r C dx : Addr} {f : List (Str × V)} {as : List Addr} {c : List (List (List Int))} (h : LCs H r as c) (hx : H x = some (.ins C dx f)) (k : Kp x H H') : LCs H' r as c := by
  have nl : ∀ {a : Addr} {xs : List V}, H a = some (.lst xs) → a ≠ x := fun ha z => by
    rw [z, hx] at ha
    cases ha
  refine ⟨k _ _ (nl h.at_) h.at_, h.len, fun i a e => ?_⟩
  obtain ⟨bs, row, h1, h2, h3, h4⟩ := h.g i a e
  refine ⟨bs, row, h1, k _ _ (nl h2) h2, h3, fun j b hb => ?_⟩
  obtain ⟨e', h5, h6⟩ := h4 j b hb
  have n := sq_nx hx h6
  exact ⟨e', h5, h6.elim (fun z => .inl (k _ _ n z)) (fun z => .inr (k _ _ n z))⟩
theorem tupq {H : Hp} {p : Addr} {ns : List Int} {Q : VK} (h : SeqV H p (ns.map V.int)) (q : ∀ (H' : Hp) (t : Addr), Same H H' → TupI H' t ns → Q (.ref t) H') : rTupOf K [.ref p] H Q := by
  rcases h with h | h
  · exact ⟨p, _, rfl, .inl ⟨.of h, fun l hl => q _ l (same_new hl) upd_same⟩⟩
  · exact ⟨p, _, rfl, .inr ⟨.of h, q H p (Same.refl _) h⟩⟩
def spInitS (C cI : Addr) : Sp := fun vs H Q E => ∃ (x i a r dx : Addr) (L : Int) (ini acc : List Int) (as : List Addr) (c : List (List (List Int))), vs = [.ref x, .int L, .ref i, .ref a, .ref r] ∧ H x = some (.ins C dx []) ∧ SeqV H i (ini.map V.int) ∧ SeqV H a (acc.map V.int) ∧ LCs H r as c ∧
  c.length ≤ 1000 ∧ (∀ r ∈ c, r.length ≤ 1000) ∧ (¬ VldB L ini acc c → E (.ref cI) none H) ∧ (VldB L ini acc c → ∀ H', Kp x H H' → AutAt C H' x L ini acc c → Q .non H')
theorem ok_initS {cI C fI : Addr} {fdI : FuncData} (T : Txt K mg cA0 PA0 cA1 PA1) (eI : ErrC K mg "InvalidAutomaton" cI) (PC : AutC K C) (F : L2.Fun K "__init__" "Automaton.__init__" s_Automaton_init fI fdI) :
    FnOk P w K mg base (L2.CX P w) 2 fI fdI ["self", "letters", "initial", "accepting", "rows"] (spInitS C cI) := by
  have X_check_states : CalX P w K mg base 1 "check_states" (spChecksS cI) := cal_checksS T eI
  refine F.okX sc_Automaton_init (fun vs H Q E h => ?_) (fun cdv A outer s H vs Q E hr h => ?_)
  · obtain ⟨x, i, a, r, dx, L, ini, acc, as, c, rfl, _⟩ := h
    rfl
  · obtain ⟨x, ia, aa, r, dx, L, ini, acc, as, cu, rfl, hx, hi, ha, hL, l1, l2, q1, q2⟩ := h
    refine ⟨_, (pss_cons
      (ps_if (pt_cmpR op_lt (pv 1) pe_int (nomark _)) (pss_one
      (ps_raise rfl (takes_of rfl rfl rfl rfl) (eI.made rfl))) pss_nil)
      (pss_cons
      (ps_if (pt_cmpR op_eq (pe_callB (call_lenK (K := K) rfl) (by rfl) T.z_len PySem.boot_len (pa_cons (pv 4) pa_nil)) pe_int (nomark _)) (pss_one
      (ps_raise rfl (takes_of rfl rfl rfl rfl) (eI.made rfl))) pss_nil)
      (pss_cons
      (ps_expr (pe_cx X_check_states hr (by decide) (takes_of rfl rfl rfl rfl) (by rfl) (pa_cons (pv 2) (pa_cons (pe_callB (call_lenK (K := K) rfl) (by rfl) T.z_len PySem.boot_len (pa_cons (pv 4) pa_nil)) pa_nil))))
      (pss_cons
      (ps_expr (pe_cx X_check_states hr (by decide) (takes_of rfl rfl rfl rfl) (by rfl) (pa_cons (pv 3) (pa_cons (pe_callB (call_lenK (K := K) rfl) (by rfl) T.z_len PySem.boot_len (pa_cons (pv 4) pa_nil)) pa_nil))))
      (pss_cons
      (ps_for (passes_of rfl) rfl (pi_list (pv 4)) (pg_name (i := 5) sc_Automaton_init.nd rfl (.inl rfl)) (pss_cons
      (ps_if (pt_cmpR op_ne (pe_callB (call_lenK (K := K) rfl) (by rfl) T.z_len PySem.boot_len (pa_cons (pv 5) pa_nil)) (pv 1) (nomark _)) (pss_one
      (ps_raise rfl (takes_of rfl rfl rfl rfl) (eI.made rfl))) pss_nil)
      (pss_one
      (ps_for (passes_of rfl) rfl (pi_list (pv 5)) (pg_name (i := 6) sc_Automaton_init.nd rfl (.inl rfl)) (pss_one
      (ps_expr (pe_cx X_check_states hr (by decide) (takes_of rfl rfl rfl rfl) (by rfl) (pa_cons (pv 6) (pa_cons (pe_callB (call_lenK (K := K) rfl) (by rfl) T.z_len PySem.boot_len (pa_cons (pv 4) pa_nil)) pa_nil)))))))))
      (pss_cons
      (ps_fld (pv 0) (pv 1) rfl)
      (pss_cons
      (ps_fld (pv 0) (pe_callTy (call_tuple_ofK (K := K) rfl) (by rfl) T.z_tuple (by decide +kernel) (pa_cons (pv 2) pa_nil)) rfl)
      (pss_cons
      (ps_fld (pv 0) (pe_callTy (call_tuple_ofK (K := K) rfl) (by rfl) T.z_tuple (by decide +kernel) (pa_cons (pv 3) pa_nil)) rfl)
      (pss_one
      (ps_fld (pv 0) (pe_callTy (call_tuple_ofK (K := K) rfl) (by rfl) T.z_tuple (by decide +kernel) (pa_cons (pe_lc (own := [("row", 5)]) (g := gName 5) (tt := tYes) rfl sc_Automaton_init.nd (pi_list (pv 4)) (blkOk_by (N := N_Automaton_init) (sc := defScope s_Automaton_init) (by decide +kernel)) (fun _ _ _ _ _ => (pg_name (i := 5) sc_Automaton_init.nd rfl (by first | exact Or.inl rfl | exact Or.inr rfl))) (fun _ _ _ _ _ => pts_nil) (fun _ _ _ _ _ => (pe_callTy (call_tuple_ofK (K := K) rfl) (by rfl) T.z_tuple (by decide +kernel) (pa_cons (pe_lc (own := [("states", 6)]) (g := gName 6) (tt := tYes) rfl sc_Automaton_init.nd (pi_listK (K := K) rfl (pv 5)) (blkOk_by (N := N_Automaton_init) (sc := stS (defScope s_Automaton_init) 8 (defBody s_Automaton_init)) (by decide +kernel)) (fun _ _ _ _ _ => (pg_name (i := 6) sc_Automaton_init.nd rfl (Or.inl rfl))) (fun _ _ _ _ _ => pts_nil) (fun _ _ _ _ _ => (pe_callTy (call_tuple_ofK (K := K) rfl) (by rfl) T.z_tuple (by decide +kernel) (pa_cons (pv 6) pa_nil)))) pa_nil)))) pa_nil)) rfl)))))))))), ?_⟩
    have hl2 : (as.map V.ref).length = cu.length := by rw [List.length_map, hL.len]
    refine ⟨_, rfl, _, _, rfl, rfl, _, rfl, ite_lt (fun c => q1 (fun v => by have := v.1; omega)) (fun c1 => ?_)⟩
    refine ⟨_, rfl, r, _, rfl, .inl (.of hL.at_), rfl, _, rfl, ite_eq (fun c => ?_) (fun c2 => ?_)⟩
    · exact q1 fun v => v.2.1 (List.length_eq_zero_iff.mp (by omega))
    have hne : cu ≠ [] := fun z => c2 (by rw [hl2, z]; rfl)
    refine ⟨_, rfl, _, rfl, r, _, rfl, .inl (.of hL.at_), ia, ini, _, rfl, hi, fun c => q1 fun v => c (by rw [hl2]; exact v.2.2.1), fun c3 => ?_⟩
    refine ⟨_, rfl, _, rfl, r, _, rfl, .inl (.of hL.at_), aa, acc, _, rfl, ha, fun c => q1 fun v => c (by rw [hl2]; exact v.2.2.2.1), fun c4 => ?_⟩
    rw [hl2] at c3 c4
    refine ⟨_, rfl, r, rfl, ⟨_, .of hL.at_⟩, for_list (K := K) (a := r) (xs := as.map V.ref) (fun i σ' H' => ∃ v5 v6 : Option V, σ' = [some (.ref x), some (.int L), some (.ref ia), some (.ref aa), some (.ref r), v5, v6] ∧ H' = H ∧ ∀ q ∈ cu.take i, (q.length : Int) = L ∧ ∀ e ∈ q, Asc cu.length e)
      ⟨_, _, rfl, rfl, by simp⟩ (fun i σ' H' _ ⟨_, _, _, z, _⟩ => by rw [z]; exact .of hL.at_) ?_ ?_⟩
    · rintro i v σ' H' hi2 ⟨v5, v6, rfl, rfl, hall⟩
      obtain ⟨a, haa, rfl⟩ := refs_get hi2
      obtain ⟨bs, row, hrow, hra, hbl0, hR⟩ := hL.g i a haa
      have hmem := List.mem_of_getElem? hrow
      have hbl : (bs.map V.ref).length = row.length := by rw [List.length_map, hbl0]
      refine ⟨_, rfl, a, _, rfl, .inl (.of hra), _, rfl, rfl, _, rfl, ite_ne (fun c => ?_) (fun c5 => ?_)⟩
      · exact q1 fun v => c (by rw [hbl]; exact (v.2.2.2.2 row hmem).1)
      rw [hbl] at c5
      refine ⟨_, rfl, a, rfl, ⟨_, .of hra⟩, for_list (K := K) (a := a) (xs := bs.map V.ref) (fun j σ' H2 => ∃ v6 : Option V, σ' = [some (.ref x), some (.int L), some (.ref ia), some (.ref aa), some (.ref r), some (.ref a), v6] ∧ H2 = H' ∧ ∀ e ∈ row.take j, Asc cu.length e)
        ⟨_, rfl, rfl, by simp⟩ (fun i σ' H' _ ⟨_, _, z, _⟩ => by rw [z]; exact .of hra) ?_ ?_⟩
      · rintro j v σ' H2 hj ⟨v6, rfl, rfl, hall2⟩
        obtain ⟨b, hb, rfl⟩ := refs_get hj
        obtain ⟨e, he, hbe⟩ := hR j b hb
        refine ⟨_, rfl, _, rfl, r, _, rfl, .inl (.of hL.at_), b, e, _, rfl, hbe, fun c => q1 fun v => c (by rw [hl2]; exact (v.2.2.2.2 row hmem).2 e (List.mem_of_getElem? he)), fun c6 => ?_⟩
        rw [hl2] at c6
        refine ⟨_, rfl, rfl, fun z hz => ?_⟩
        rw [take_get he] at hz
        rcases List.mem_append.mp hz with k | k
        · exact hall2 z k
        · rw [List.mem_singleton.mp k]
          exact c6
      · rintro σ' H2 ⟨v6, rfl, rfl, hall2⟩
        rw [hbl, List.take_length] at hall2
        refine ⟨_, _, rfl, rfl, fun z hz => ?_⟩
        rw [take_get hrow] at hz
        rcases List.mem_append.mp hz with k | k
        · exact hall z k
        · rw [List.mem_singleton.mp k]
          exact ⟨c5, hall2⟩
    · rintro σ' H' ⟨v5, v6, rfl, rfl, hall⟩
      rw [hl2, List.take_length] at hall
      have hv : VldB L ini acc cu := ⟨by omega, hne, c3, c4, hall⟩
      have nix : ia ≠ x := sq_nx hx hi
      have nax : aa ≠ x := sq_nx hx ha
            -- self.letters
      refine ⟨_, rfl, _, rfl, x, C, dx, [], rfl, hx, PC.cl, PC.nL, by decide, ?_⟩
      have k1 : Kp x H' (upd H' x (.ins C dx (putF "letters" (.int L) []))) := Kp.own
      have x1 : (upd H' x (.ins C dx (putF "letters" (.int L) []))) x = some (.ins C dx (putF "letters" (.int L) [])) := upd_same
      generalize upd H' x (.ins C dx (putF "letters" (.int L) [])) = H1 at *
      -- self.initial
      have hi1 : SeqV H1 ia (ini.map V.int) := hi.elim (fun z => .inl (k1 _ _ nix z)) (fun z => .inr (k1 _ _ nix z))
      have ha1 : SeqV H1 aa (acc.map V.int) := ha.elim (fun z => .inl (k1 _ _ nax z)) (fun z => .inr (k1 _ _ nax z))
      refine ⟨_, rfl, ?_⟩
      walk_at "nl"
      refine tupq hi1 fun Ha it sa ti => ?_
      have xa := sa _ _ x1
      have nxi : x ≠ it := fun z => by rw [TupI, ← z, xa] at ti; cases ti
      refine ⟨_, rfl, x, C, dx, _, rfl, xa, PC.cl, PC.nI, pl_lt (pl_next pl_0) (by decide), ?_⟩
      have k2 : Kp x H1 (upd Ha x (.ins C dx (putF "initial" (.ref it) (putF "letters" (.int L) [])))) := fun c u nc hc => by rw [upd_ne nc]; exact sa _ _ hc
      have x2 : (upd Ha x (.ins C dx (putF "initial" (.ref it) (putF "letters" (.int L) [])))) x = some (.ins C dx (putF "initial" (.ref it) (putF "letters" (.int L) []))) := upd_same
      have t2 : TupI (upd Ha x (.ins C dx (putF "initial" (.ref it) (putF "letters" (.int L) [])))) it ini := by
        show _ = _
        rw [upd_ne nxi.symm]
        exact ti
      generalize upd Ha x (.ins C dx (putF "initial" (.ref it) (putF "letters" (.int L) []))) = H2 at *
      have ha2 : SeqV H2 aa (acc.map V.int) := ha1.elim (fun z => .inl (k2 _ _ nax z)) (fun z => .inr (k2 _ _ nax z))
      -- self.accepting
      refine ⟨_, rfl, ?_⟩
      walk_at "nl"
      refine tupq ha2 fun Hb at_ sb tb => ?_
      have xb := sb _ _ x2
      have nxa : x ≠ at_ := fun z => by rw [TupI, ← z, xb] at tb; cases tb
      refine ⟨_, rfl, x, C, dx, _, rfl, xb, PC.cl, PC.nA, pl_lt (pl_next (pl_next pl_0)) (by decide), ?_⟩
      have k3 : Kp x H2 (upd Hb x (.ins C dx (putF "accepting" (.ref at_) (putF "initial" (.ref it) (putF "letters" (.int L) []))))) := fun c u nc hc => by rw [upd_ne nc]; exact sb _ _ hc
      have x3 : (upd Hb x (.ins C dx (putF "accepting" (.ref at_) (putF "initial" (.ref it) (putF "letters" (.int L) []))))) x = some (.ins C dx (putF "accepting" (.ref at_) (putF "initial" (.ref it) (putF "letters" (.int L) [])))) := upd_same
      have t3 : TupI (upd Hb x (.ins C dx (putF "accepting" (.ref at_) (putF "initial" (.ref it) (putF "letters" (.int L) []))))) at_ acc := by
        show _ = _
        rw [upd_ne nxa.symm]
        exact tb
      have t23 : TupI (upd Hb x (.ins C dx (putF "accepting" (.ref at_) (putF "initial" (.ref it) (putF "letters" (.int L) []))))) it ini := k3 _ _ nxi.symm t2
      generalize upd Hb x (.ins C dx (putF "accepting" (.ref at_) (putF "initial" (.ref it) (putF "letters" (.int L) [])))) = H3 at *
      have k03 : Kp x H' H3 := (k1.trans k2).trans k3
      have hL3 : LCs H3 r as cu := hL.kp hx k03
      -- self.rows
      refine ⟨_, rfl, r, rfl, ⟨_, .of hL3.at_⟩, fun D hD => lc_list (K := K) (a := r) (xs := as.map V.ref) (fun i H4 => ∃ (as2 : List Addr) (bss2 : List (List Addr)), Same H3 H4 ∧ H4 D = some (.lst (as2.map V.ref)) ∧ CubB .tup H4 as2 bss2 (cu.take i))
        ⟨[], [], same_new hD, upd_same, True.intro⟩ (fun i H' _ ⟨_, _, z, _⟩ => .of (z _ _ hL3.at_)) ?_ ?_⟩
      · rintro i v H4 hi4 ⟨as2, bss2, s4, e4, C4⟩
        obtain ⟨a, haa, rfl⟩ := refs_get hi4
        obtain ⟨bs, row, hrow, hra, hbl0, hR⟩ := hL3.g i a haa
        have hil : i < cu.length := (List.getElem?_eq_some_iff.mp hrow).1
        have hbl : (bs.map V.ref).length = row.length := by rw [List.length_map, hbl0]
        have hrl := l2 row (List.mem_of_getElem? hrow)
        refine ⟨rfl, _, rfl, a, rfl, ⟨_, .of (s4 _ _ hra)⟩, fun E1 hE => lc_list (K := K) (a := a) (xs := bs.map V.ref) (fun j H5 => ∃ cs : List Addr, Same H4 H5 ∧ H5 E1 = some (.lst (cs.map V.ref)) ∧ RowsA .tup H5 cs (row.take j))
          ⟨[], same_new hE, upd_same, True.intro⟩ (fun i H' _ ⟨_, z, _⟩ => .of (z _ _ (s4 _ _ hra))) ?_ ?_⟩
        · rintro j v H5 hj ⟨cs, s5, e5, R5⟩
          obtain ⟨b, hb, rfl⟩ := refs_get hj
          obtain ⟨e, he, hbe⟩ := hR j b hb
          have hjl : j < row.length := (List.getElem?_eq_some_iff.mp he).1
          have cl := R5.len
          rw [List.length_take] at cl
          refine ⟨rfl, _, rfl, ?_⟩
          walk_at "nl"
          refine tupq ((hbe.same s4).same s5) fun Hc t sc tc => ?_
          have ec := sc _ _ e5
          have nEt : E1 ≠ t := fun z => by rw [TupI, ← z, ec] at tc; cases tc
          refine ⟨_, ec, by rw [List.length_map]; exact Nat.lt_of_le_of_lt (show cs.length ≤ 1000 by omega) (by decide), cs ++ [t], ?_, ?_, ?_⟩
          · intro c o hc
            rw [upd_ne (ne_of_none hc hE)]
            exact sc _ _ (s5 _ _ hc)
          · rw [upd_same, List.map_append]
            rfl
          · rw [take_get he]
            refine RowsA.snoc ?_ (rowsUpd (fun ys z => ?_) (R5.same sc))
            · rw [upd_ne nEt.symm]
              exact tc
            · rw [ec] at z
              cases z
        · rintro H5 ⟨cs, s5, e5, R5⟩
          rw [hbl, List.take_length] at R5
          have cl := cub_len C4
          rw [List.length_take] at cl
          refine ⟨E1, _, rfl, .inl ⟨.of e5, fun t ht => ?_⟩⟩
          have e54 := s5 _ _ e4
          have nDt : D ≠ t := fun z => by rw [z, ht] at e54; cases e54
          refine ⟨_, by rw [upd_ne nDt]; exact e54, by rw [List.length_map]; exact Nat.lt_of_le_of_lt (show as2.length ≤ 1000 by omega) (by decide), as2 ++ [t], bss2 ++ [cs], ?_, ?_, ?_⟩
          · intro c o hc
            rw [upd_ne (ne_of_none hc hD), upd_ne (ne_of_none (s5 _ _ (s4 _ _ hc)) ht)]
            exact s5 _ _ (s4 _ _ hc)
          · rw [upd_same, List.map_append]
            rfl
          · rw [take_get hrow]
            have hD5 : ∀ ys, (upd H5 t (.tup (cs.map V.ref))) D ≠ some (.tup ys) := fun ys z => by
              rw [upd_ne nDt, e54] at z
              cases z
            refine cub_snoc ?_ (rowsUpd hD5 (R5.same (same_new ht))) (cub_tup hD5 (cub_same (s5.trans (same_new ht)) C4))
            rw [upd_ne nDt.symm, upd_same]
      · rintro H4 ⟨as2, bss2, s4, e4, C4⟩
        rw [hl2, List.take_length] at C4
        refine ⟨D, _, rfl, .inl ⟨.of e4, fun rt hrt => ?_⟩⟩
        have nxr : x ≠ rt := fun z => by
          have y := s4 _ _ x3
          rw [z, hrt] at y
          cases y
        have nir : it ≠ rt := fun z => by
          have y := s4 _ _ t23
          rw [z, hrt] at y
          cases y
        have nar : at_ ≠ rt := fun z => by
          have y := s4 _ _ t3
          rw [z, hrt] at y
          cases y
        have x4 : (upd H4 rt (.tup (as2.map V.ref))) x = some (.ins C dx (putF "accepting" (.ref at_) (putF "initial" (.ref it) (putF "letters" (.int L) [])))) := by
          rw [upd_ne nxr]
          exact s4 _ _ x3
        refine ⟨_, rfl, x, C, dx, _, rfl, x4, PC.cl, PC.nR, pl_lt (pl_next (pl_next (pl_next pl_0))) (by decide), q2 hv _ ?_ ⟨dx, it, at_, rt, as2, bss2, upd_same, ?_, ?_, ?_, ?_⟩⟩
        · intro b o nb hb
          rw [upd_ne nb, upd_ne (fun z => by have y := s4 _ _ (k03 _ _ nb hb); rw [z, hrt] at y; cases y)]
          exact s4 _ _ (k03 _ _ nb hb)
        · show _ = _
          rw [upd_ne nxi.symm, upd_ne nir]
          exact s4 _ _ t23
        · show _ = _
          rw [upd_ne nxa.symm, upd_ne nar]
          exact s4 _ _ t3
        · rw [upd_ne nxr.symm, upd_same]
        · exact cub_tup (fun ys z => by rw [x4] at z; cases z) (cub_same (same_new hrt) C4)
/-! a fresh instance -/
theorem same_made {C x dx : Addr} {H1 H2 : Hp} (hx : H1 x = none) (hd : H1 dx = none) (k : Kp x (upd (upd H1 dx (.own x)) x (.ins C dx [])) H2) : Same H1 H2 := fun b o hb => by
  have n1 : b ≠ x := fun z => by rw [z, hx] at hb; cases hb
  have n2 : b ≠ dx := fun z => by rw [z, hd] at hb; cases hb
  refine k _ _ n1 ?_
  rw [upd_ne n1, upd_ne n2]
  exact hb
theorem same_fresh {C x dx : Addr} {H1 : Hp} (hx : H1 x = none) (hd : H1 dx = none) : Same H1 (upd (upd H1 dx (.own x)) x (.ins C dx [])) := same_made hx hd (Kp.refl _ _)
theorem ll_kp2 {d r : Addr} {H H' : Hp} {as : List Addr} {bss : List (List Addr)} {c : List (List (List Int))} (k : Kp d H H') (n : d ≠ r) (m : ∀ b, (b ∈ as ∨ ∃ bs ∈ bss, b ∈ bs) → b ≠ d) (h : LC H r as bss c) : LC H' r as bss c := ⟨k _ _ n.symm h.1, cub_keep (fun b o hb e => k _ _ (m b hb) e) h.2⟩
def KL (S : List Addr) (H H' : Hp) : Prop := ∀ b o, b ∉ S → H b = some o → H' b = some o
theorem KL.trans {S : List Addr} {H H1 H2 : Hp} (a : KL S H H1) (b : KL S H1 H2) : KL S H H2 := fun c o n h => b c o n (a c o n h)
theorem kl_upd {S : List Addr} {H : Hp} {x : Addr} {o : HO} (h : x ∈ S) : KL S H (upd H x o) := fun b _ n e => by rw [upd_ne (fun z => n (by rw [z]; exact h))]; exact e
theorem kl_same {S : List Addr} {H H' : Hp} (s : Same H H') : KL S H H' := fun b o _ e => s b o e
theorem rows_kl {S : List Addr} {H H' : Hp} (k : KL S H H') (hs : ∀ b ∈ S, ∃ ys, H b = some (.lst ys)) : ∀ {as : List Addr} {rs : List (List Int)}, RowsA .tup H as rs → RowsA .tup H' as rs
  | [], [], _ => True.intro
  | a :: as, r :: rs, h => ⟨k _ _ (fun z => by obtain ⟨ys, y⟩ := hs a z; have := h.1; rw [y] at this; cases this) h.1, rows_kl k hs h.2⟩
  | [], _ :: _, h => h.elim
  | _ :: _, [], h => h.elim
theorem cub_kl {S : List Addr} {H H' : Hp} (k : KL S H H') (hs : ∀ b ∈ S, ∃ ys, H b = some (.lst ys)) : ∀ {as : List Addr} {bss : List (List Addr)} {c : List (List (List Int))}, CubB .tup H as bss c → CubB .tup H' as bss c
  | [], [], [], _ => True.intro
  | a :: as, bs :: bss, r :: rs, h => ⟨⟨k _ _ (fun z => by obtain ⟨ys, y⟩ := hs a z; have := h.1.1; rw [y] at this; cases this) h.1.1, rows_kl k hs h.1.2⟩, cub_kl k hs h.2⟩
  | [], [], _ :: _, h => h.elim
  | [], _ :: _, _, h => h.elim
  | _ :: _, [], _, h => h.elim
  | _ :: _, _ :: _, [], h => h.elim
theorem aut_kl {C : Addr} {S : List Addr} {H H' : Hp} {x : Addr} {L : Int} {ini acc : List Int} {c : List (List (List Int))} (k : KL S H H') (hs : ∀ b ∈ S, ∃ ys, H b = some (.lst ys)) (h : AutAt C H x L ini acc c) : AutAt C H' x L ini acc c := by
  obtain ⟨dx, it, at_, rt, as, bss, e1, e2, e3, e4, e5⟩ := h
  have f2 : H it = some (.tup (ini.map V.int)) := e2
  have f3 : H at_ = some (.tup (acc.map V.int)) := e3
  refine ⟨dx, it, at_, rt, as, bss, k _ _ (fun z => ?_) e1, k _ _ (fun z => ?_) e2, k _ _ (fun z => ?_) e3, k _ _ (fun z => ?_) e4, cub_kl k hs e5⟩
  · obtain ⟨ys, y⟩ := hs _ z
    rw [y] at e1
    cases e1
  · obtain ⟨ys, y⟩ := hs _ z
    rw [y] at f2
    cases f2
  · obtain ⟨ys, y⟩ := hs _ z
    rw [y] at f3
    cases f3
  · obtain ⟨ys, y⟩ := hs _ z
    rw [y] at e4
    cases e4
theorem aut_kp {C d : Addr} {H H' : Hp} {x : Addr} {L : Int} {ini acc : List Int} {c : List (List (List Int))} (k : Kp d H H') (hd : Drw H d) (h : AutAt C H x L ini acc c) : AutAt C H' x L ini acc c :=
  aut_kl (S := [d]) (fun b o hb e => k b o (fun z => hb (by rw [z]; exact List.mem_singleton_self _)) e) (fun b hb => by obtain ⟨ds, e⟩ := hd; rw [List.mem_singleton.mp hb]; exact ⟨_, e⟩) h
theorem ite_f {c : Bool} {A B : Prop} (h : c = false) (q : B) : if c = true then A else B := by
  rw [if_neg (by rw [h]; exact Bool.false_ne_true)]
  exact q
theorem ite_t {c : Bool} {A B : Prop} (h : c = true) (q : A) : if c = true then A else B := by
  rw [if_pos h]
  exact q
/-- a list of ints that are states, as numbers -/
def nat (xs : List Int) : List Nat := xs.map Int.toNat
theorem nat_map {xs : List Int} (h : ∀ x ∈ xs, 0 ≤ x) : (nat xs).map VN = xs.map V.int := by
  unfold nat
  rw [List.map_map]
  refine List.map_congr_left fun x hx => ?_
  show V.int ((x.toNat : Nat) : Int) = V.int x
  rw [Int.toNat_of_nonneg (h x hx)]
theorem mem_nat {xs : List Int} (h : ∀ x ∈ xs, 0 ≤ x) {n : Nat} : n ∈ nat xs ↔ (n : Int) ∈ xs := by
  unfold nat
  rw [List.mem_map]
  constructor
  · rintro ⟨x, hx, rfl⟩
    rw [Int.toNat_of_nonneg (h x hx)]; exact hx
  · intro hx
    exact ⟨_, hx, Int.toNat_natCast n⟩
theorem nat_len (xs : List Int) : (nat xs).length = xs.length := List.length_map ..
/-- g is the graph of the rows c, whatever the letters are -/
structure SG (c : List (List (List Int))) (g : Gr.G) : Prop where
  len : g.length = c.length
  ed : ∀ u v, Gr.E g u v ↔ ∃ r e, c[u]? = some r ∧ e ∈ r ∧ (v : Int) ∈ e
  sh : ∀ u, (Gr.row g u).length ≤ 63
theorem SG.ok {L : Int} {ini acc : List Int} {c : List (List (List Int))} {g : Gr.G} (h : SG c g) (hV : VldB L ini acc c) : Gr.Ok g := fun u v hv => by
  obtain ⟨r, e, h1, h2, h3⟩ := (h.ed u v).mp hv
  have := ((hV.2.2.2.2 r (List.mem_of_getElem? h1)).2 e h2).2 v h3
  rw [h.len]
  omega
theorem below_le {w : Nat → Nat} {k : Nat} (h : ∀ u, w u ≤ k) : ∀ n, Gr.below w n ≤ n * k
  | 0 => Nat.zero_le _
  | n + 1 => by
    have := below_le h n
    have := h n
    show Gr.below w n + w n ≤ (n + 1) * k
    rw [Nat.succ_mul]
    omega
theorem SG.small {c : List (List (List Int))} {g : Gr.G} (h : SG c g) (hc : c.length ≤ 1000) : Small g := by
  refine ⟨by rw [h.len]; omega, Nat.le_trans (below_le (k := 63) h.sh _) ?_⟩
  rw [h.len]
  omega
theorem asc_nodup {n : Int} {xs : List Int} (h : Asc n xs) : (nat xs).Nodup := by
  unfold nat
  rw [List.nodup_iff_pairwise_ne, List.pairwise_map]
  refine List.Pairwise.imp_of_mem (R := (· < ·)) (fun {a b} ha hb hab => ?_) h.1
  have h1 := h.2 a ha
  have h2 := h.2 b hb
  omega
theorem take_succ'' {α : Type} {l : List α} {j : Nat} {v : α} (h : l[j]? = some v) : l.take (j + 1) = l.take j ++ [v] := by
  rw [List.take_add_one, h]; rfl
theorem row_snoc (g : Gr.G) (r : List Nat) (u : Nat) : Gr.row (g ++ [r]) u = if u = g.length then r else Gr.row g u := by
  unfold Gr.row
  rw [List.getD_eq_getElem?_getD, List.getD_eq_getElem?_getD]
  split
  · rename_i h
    subst h
    simp
  · rename_i h
    rcases Nat.lt_or_ge u g.length with k | k
    · rw [List.getElem?_append_left k]
    · rw [List.getElem?_eq_none (by rw [List.length_append, List.length_singleton]; omega), List.getElem?_eq_none k]
def spSG (C : Addr) : Sp := fun vs H Q _ => ∃ (x : Addr) (L : Int) (ini acc : List Int) (c : List (List (List Int))), vs = [.ref x] ∧ AutAt C H x L ini acc c ∧ VldB L ini acc c ∧ c.length ≤ 1000 ∧ (∀ r ∈ c, r.flatten.length ≤ 63) ∧
  ∀ (H' : Hp) (y : Addr) (g : Gr.G), Same H H' → H y = none → GrL H' y g → SG c g → Q (.ref y) H'
theorem cal_sg {C : Addr} (T : Txt K mg cA0 PA0 cA1 PA1) (PC : AutC K C) : C8.Cal P w K mg base 1 "state_graph" (spSG C) [] := by
  obtain ⟨f, fd, F, hm, hb⟩ := T.h_state_graph
  refine ⟨f, fd, _, [], F.ok sc_state_graph (fun vs H Q E h => ?_) (fun cdv A outer s H vs Q E hr h => ?_), hm, F.kp, hb, .nil⟩
  · obtain ⟨x, L, ini, acc, c, rfl, _⟩ := h
    rfl
  · obtain ⟨x, L, ini, acc, c, rfl, hA, hV, b1, b2, q⟩ := h
    refine ⟨_, (pss_cons
      (ps_set (i := 1) sc_state_graph.nd rfl (Or.inl rfl) (pe_lst pa_nil))
      (pss_cons
      (ps_for PassesOwn.never rfl (pi_tup (pe_fld (pv 0) rfl)) (pg_name (i := 2) sc_state_graph.nd rfl (.inl rfl)) (pss_one
      (ps_expr (pe_bm PySem.F.plainAttrs_list PySem.F.slot_list_append PySem.F.type_list_append mt_append (pv 1) (pa_cons (pe_callB (cr_sortedSet' (w := w) rfl rfl) (by rfl) T.z_sorted (by decide +kernel) (pa_cons (pe_callTy (cr_setLI (K := K) (w := w) rfl rfl rfl) (by rfl) T.z_set (by decide +kernel) (pa_cons (pe_lc2 (own := [("states", 3), ("state", 4)]) (vs1 := [4]) (g := gName 3) (g1 := gName 4) (tt := tYes) (tt1 := tYes) rfl sc_state_graph.nd (pi_tup (pv 2)) (blkOk_by (N := N_state_graph) (sc := defScope s_state_graph) (by decide +kernel)) (by decide) (fun _ _ _ _ _ => (pg_name (i := 3) sc_state_graph.nd rfl (Or.inl rfl))) (fun _ _ _ _ _ => pts_nil) (fun _ _ _ _ _ => (pi_tupK (K := K) rfl (pv 3))) (fun _ _ _ _ _ => (pg_name (i := 4) sc_state_graph.nd rfl (Or.inl rfl))) (fun _ _ _ _ _ => pts_nil) (fun _ _ _ _ _ => (pv 4))) pa_nil)) pa_nil)) pa_nil)))))
      (pss_one
      (ps_ret (pv 1))))), ?_⟩
    obtain ⟨dx, it, at_, rt, as, bss, e1, e2, e3, e4, e5⟩ := id hA
    have hl2 : (as.map V.ref).length = c.length := by rw [List.length_map, (cub_len e5).1]
    refine ⟨Nat.zero_le _, fun R nR => ?_⟩
    generalize hX : upd H R _ = H0; obtain ⟨sH0, eR⟩ := nw nR hX; clear hX
    refine ⟨_, rfl, x, C, dx, _, _, rfl, sH0 _ _ e1, PC.cl, PC.nR, bf_r _ _ _ _, rt, rfl, ⟨_, .of (sH0 _ _ e4)⟩, for_tup (K := K) (a := rt) (xs := as.map V.ref) (fun i σ H' => ∃ (v2 v3 v4 : Option V) (ys : List Addr) (g : Gr.G), σ = [some (.ref x), some (.ref R), v2, v3, v4] ∧ Same H H' ∧ H' R = some (.lst (ys.map V.ref)) ∧ ys.length = i ∧ (∀ j a, ys[j]? = some a → a ≠ R ∧ H' a = some (.lst ((Gr.row g j).map VN))) ∧ SG (c.take i) g)
      ⟨_, _, _, [], [], rfl, sH0, eR, rfl, fun j a h => by (cases h), ⟨rfl, fun u v => ⟨fun h => by (cases h), fun ⟨r, e, h, _⟩ => by (cases h)⟩, fun u => Nat.zero_le _⟩⟩ (fun i σ H' _ ⟨_, _, _, _, _, _, z, _⟩ => .of (z _ _ e4)) ?_ ?_⟩
    · rintro i v σ H4 hi ⟨v2, v3, v4, ys, g, rfl, s4, eR, hyl, hys, hg⟩
      obtain ⟨a, haa, rfl⟩ := refsg hi
      obtain ⟨bs, row, hbs, hrow, hra, hRw⟩ := cub_get e5 haa
      have hmem := List.mem_of_getElem? hrow
      have hrL := (hV.2.2.2.2 row hmem).1
      refine ⟨_, rfl, .inl ⟨rfl, _, .of eR⟩, ?_⟩
      have hfl := b2 row hmem
      have htk : ∀ q, ((row.take q).flatten).length ≤ 63 := fun q => by
        have h1 : row.flatten = (row.take q).flatten ++ (row.drop q).flatten := by rw [← List.flatten_append, List.take_append_drop]
        have := congrArg List.length h1
        rw [List.length_append] at this
        omega
      refine ⟨_, rfl, a, rfl, ⟨_, .of (s4 _ _ hra)⟩, fun D2 nD2 => ?_⟩
      refine lc2_tup (K := K) (a := a) (xs := bs.map V.ref) (fun q H7 => Same H4 H7 ∧ H7 D2 = some (.lst ((row.take q).flatten.map V.int))) ⟨same_new nD2, upd_same⟩ (fun q H7 _ ⟨s7, _⟩ => .of (s7 _ _ (s4 _ _ hra))) ?_ ?_
      · rintro q y H7 hy ⟨s7, e7⟩
        obtain ⟨b, hb, rfl⟩ := refsg hy
        obtain ⟨e, he, hbe⟩ := hRw.get hb
        have hq := lt_of_get he
        have hfq := htk (q + 1)
        rw [List.take_add_one, he, Option.toList_some, List.flatten_append, List.length_append, show ([e] : List (List Int)).flatten = e by simp] at hfq
        refine ⟨rfl, _, rfl, b, rfl, ⟨_, .of (s7 _ _ (s4 _ _ hbe))⟩, ?_⟩
        refine lc2_in (K := K) (b := b) (ys := e.map V.int) (fun j H8 => Same H4 H8 ∧ H8 D2 = some (.lst (((row.take q).flatten ++ e.take j).map V.int))) ⟨s7, by rw [List.take_zero, List.append_nil]; exact e7⟩ (fun j H8 _ ⟨s8, _⟩ => .of (s8 _ _ (s4 _ _ hbe))) ?_ ?_
        · rintro j y H8 hy ⟨s8, e8⟩
          obtain ⟨t, ht, rfl⟩ := mapg hy
          refine ⟨rfl, _, rfl, _, e8, ?_, fun c u hc => ?_, ?_⟩
          · rw [List.length_map, List.length_append, List.length_take]
            exact Nat.lt_of_le_of_lt (show _ ≤ 10000 by omega) (by decide)
          · rw [upd_ne (ne_of_none hc nD2)]
            exact s8 _ _ hc
          · rw [upd_same, List.take_add_one, ht, Option.toList_some, ← List.append_assoc, List.map_append (l₂ := [t])]
            rfl
        · rintro H8 ⟨s8, e8⟩
          rw [List.length_map, List.take_length] at e8
          refine ⟨s8, ?_⟩
          rw [e8, List.take_add_one, he, Option.toList_some, List.flatten_append]
          simp
      · rintro H7 ⟨s7, e7⟩
        rw [List.length_map, hRw.len, List.take_length] at e7
        refine ⟨D2, row.flatten, rfl, .of e7, Nat.lt_of_le_of_lt (show _ ≤ 64 by omega) (by decide), fun p cc hp hcc => ?_⟩
        refine ⟨p, _, cc, rfl, upd_same, by omega, fun ns p2 hpw hmm hnl hp2 => ?_⟩
        have s8 := ((s4.trans s7).trans (same_new (o := SetO w p (fun j => decide (j ∈ row.flatten)) cc) hp)).trans (same_new (o := .lst (ns.map V.int)) hp2)
        have t8 := (s7.trans (same_new (o := SetO w p (fun j => decide (j ∈ row.flatten)) cc) hp)).trans (same_new (o := .lst (ns.map V.int)) hp2)
        have np24 := (s7.trans (same_new (o := SetO w p (fun j => decide (j ∈ row.flatten)) cc) hp)).free hp2
        generalize hH8 : upd (upd H7 p (SetO w p (fun j => decide (j ∈ row.flatten)) cc)) p2 (.lst (ns.map V.int)) = H8 at s8 t8
        have ep2 : H8 p2 = some (.lst (ns.map V.int)) := by rw [← hH8]; exact upd_same
        clear hH8
        have np2R : p2 ≠ R := fun z => by rw [z, eR] at np24; cases np24
        have eR8 := t8 _ _ eR
        have hcl := lt_of_get hrow
        refine ⟨R, _, _, rfl, rfl, eR8, by rw [List.length_map, hyl]; exact Nat.lt_of_le_of_lt (show i ≤ 1000 by omega) (by decide), ?_⟩
        generalize hX : upd H8 R _ = H9; have tH9 := mwt eR8 hX; clear eR8; obtain ⟨sH9, eR, kH9⟩ := mw s8 nR hX; clear hX
        have hns0 : ∀ t ∈ ns, 0 ≤ t ∧ t < (c.length : Int) := fun t ht => by
          have h1 := (hmm t).mp ht
          rw [decide_eq_true_iff, List.mem_flatten] at h1
          obtain ⟨e, he, h2⟩ := h1
          exact ((hV.2.2.2.2 row hmem).2 e he).2 t h2
        have hgl : g.length = i := by rw [hg.len, List.length_take]; omega
        refine ⟨_, _, _, ys ++ [p2], g ++ [nat ns], rfl, sH9, by rw [eR, List.map_append]; rfl, by rw [List.length_append, hyl]; rfl, fun j a' hj => ?_, ?_⟩
        · rw [row_snoc]
          rcases snocg hj with ⟨h0, h⟩ | ⟨h1, h2⟩
          · rw [if_neg (by omega), kH9 a' (hys j a' h).1]
            exact ⟨(hys j a' h).1, t8 _ _ (hys j a' h).2⟩
          · rw [h2, if_pos (by omega), kH9 p2 np2R, nat_map (fun t ht => (hns0 t ht).1)]
            exact ⟨np2R, ep2⟩
        · rw [take_succ'' hrow]
          refine ⟨by rw [List.length_append, List.length_append, hg.len]; rfl, fun u v => ?_, fun u => ?_⟩
          · unfold Gr.E
            rw [row_snoc]
            by_cases hu : u = g.length
            · rw [if_pos hu, mem_nat (fun t ht => (hns0 t ht).1), hmm, decide_eq_true_iff, List.mem_flatten]
              have : (c.take i ++ [row])[u]? = some row := by
                rw [List.getElem?_append_right (by rw [List.length_take]; omega), show u - (c.take i).length = 0 by rw [List.length_take]; omega]; rfl
              rw [this]
              exact ⟨fun ⟨e, h1, h2⟩ => ⟨row, e, rfl, h1, h2⟩, fun ⟨r, e, h0, h1, h2⟩ => ⟨e, by rw [Option.some.inj h0]; exact h1, h2⟩⟩
            · rw [if_neg hu]
              have h1 := hg.ed u v
              unfold Gr.E at h1
              rw [h1]
              have : (c.take i ++ [row])[u]? = (c.take i)[u]? := by
                rcases Nat.lt_or_ge u i with k | k
                · rw [List.getElem?_append_left (by rw [List.length_take]; omega)]
                · rw [List.getElem?_eq_none (by rw [List.length_append, List.length_take, List.length_singleton]; omega), List.getElem?_eq_none (by rw [List.length_take]; omega)]
              rw [this]
          · rw [row_snoc]
            split
            · rw [nat_len]; omega
            · exact hg.sh u
    · rintro σ H4 ⟨v2, v3, v4, ys, g, rfl, s4, eR, hyl, hys, hg⟩
      rw [hl2, List.take_length] at hg
      exact ⟨_, rfl, q H4 R g s4 nR ⟨ys, eR, by rw [hyl, hl2, hg.len], fun i a h => (hys i a h).2⟩ hg⟩
theorem asc_le {n : Int} {xs : List Int} (h : Asc n xs) : (xs.length : Int) ≤ n ∨ xs = [] := by
  by_cases e : xs = []
  · exact .inr e
  refine .inl ?_
  obtain ⟨x, l, rfl⟩ := List.exists_cons_of_ne_nil e
  have h0 := h.2 x List.mem_cons_self
  have := nd_len (n := n.toNat) (asc_nodup h) fun y hy => by
    have := h.2 _ ((mem_nat (fun z hz => (h.2 z hz).1)).mp hy)
    omega
  rw [nat_len] at this
  omega
theorem asc_lt {n : Nat} {xs : List Int} (h : Asc (n : Int) xs) : xs.length ≤ n := by
  rcases asc_le h with k | k
  · omega
  · rw [k]; exact Nat.zero_le _
/-- the graph of the rows, written out -/
def gph (c : List (List (List Int))) : Gr.G := c.map fun r => nat r.flatten
theorem gph_E {L : Int} {ini acc : List Int} {c : List (List (List Int))} (hV : VldB L ini acc c) (u v : Nat) : Gr.E (gph c) u v ↔ ∃ r e, c[u]? = some r ∧ e ∈ r ∧ (v : Int) ∈ e := by
  unfold Gr.E Gr.row gph
  rw [List.getD_eq_getElem?_getD, List.getElem?_map]
  cases h : c[u]? with
  | none => simp
  | some r =>
    have h0 : ∀ x ∈ r.flatten, 0 ≤ x := fun x hx => by
      obtain ⟨e, he, hx⟩ := List.mem_flatten.mp hx
      exact (((hV.2.2.2.2 r (List.mem_of_getElem? h)).2 e he).2 x hx).1
    show v ∈ nat r.flatten ↔ _
    rw [mem_nat h0, List.mem_flatten]
    exact ⟨fun ⟨e, a, b⟩ => ⟨r, e, rfl, a, b⟩, fun ⟨r', e, a, b, d⟩ => ⟨e, by rw [Option.some.inj a]; exact b, d⟩⟩
theorem rc_congr {g g' : Gr.G} (h : ∀ u v, Gr.E g u v → Gr.E g' u v) {u v : Nat} (r : Gr.Rc g u v) : Gr.Rc g' u v := by
  induction r with
  | refl u => exact .refl u
  | step e _ ih => exact .step (h _ _ e) ih
theorem SG.rc {L : Int} {ini acc : List Int} {c : List (List (List Int))} {g : Gr.G} (h : SG c g) (hV : VldB L ini acc c) (u v : Nat) : Gr.Rc g u v ↔ Gr.Rc (gph c) u v :=
  ⟨rc_congr fun a b e => (gph_E hV a b).mpr ((h.ed a b).mp e), rc_congr fun a b e => (h.ed a b).mpr ((gph_E hV a b).mp e)⟩
theorem SG.cyc {L : Int} {ini acc : List Int} {c : List (List (List Int))} {g : Gr.G} (h : SG c g) (hV : VldB L ini acc c) (u : Nat) : Gr.Cyc g u ↔ Gr.Cyc (gph c) u :=
  ⟨fun ⟨v, e, r⟩ => ⟨v, (gph_E hV _ _).mpr ((h.ed _ _).mp e), (h.rc hV _ _).mp r⟩, fun ⟨v, e, r⟩ => ⟨v, (h.ed _ _).mpr ((gph_E hV _ _).mp e), (h.rc hV _ _).mpr r⟩⟩
theorem gph_ok {L : Int} {ini acc : List Int} {c : List (List (List Int))} (hV : VldB L ini acc c) : Gr.Ok (gph c) := fun u v hv => by
  obtain ⟨r, e, h1, h2, h3⟩ := (gph_E hV u v).mp hv
  have := ((hV.2.2.2.2 r (List.mem_of_getElem? h1)).2 e h2).2 v h3
  show v < (c.map _).length
  rw [List.length_map]
  omega
theorem rev_rc {g t : Gr.G} (ok : Gr.Ok g) (h : Gr.Rev g t) {u v : Nat} (hv : v < g.length) : Gr.Rc t v u ↔ Gr.Rc g u v ∧ u < g.length := by
  constructor
  · intro r
    induction r with
    | refl u => exact ⟨.refl u, hv⟩
    | step e r ih =>
      have := (h.2 _ _).mp e
      obtain ⟨i1, i2⟩ := ih this.2.1
      exact ⟨i1.snoc this.1, i2⟩
  · rintro ⟨r, hu⟩
    induction r with
    | refl u => exact .refl u
    | step e r ih => exact (ih hv (ok _ _ e)).snoc ((h.2 _ _).mpr ⟨e, hu, ok _ _ e⟩)
theorem rev_ok {g t : Gr.G} (h : Gr.Rev g t) : Gr.Ok t := fun u v hv => by rw [h.1]; exact ((h.2 v u).mp hv).2.1
/-- a state that a run may visit that visits accepting states again and again -/
def Useful (c : List (List (List Int))) (ini acc : List Int) (u : Nat) : Prop := (∃ s ∈ ini, Gr.Rc (gph c) s.toNat u) ∧ ∃ a ∈ acc, Gr.Cyc (gph c) a.toNat ∧ Gr.Rc (gph c) u a.toNat
structure Us (c : List (List (List Int))) (ini acc : List Int) (us : List Nat) : Prop where
  pw : us.Pairwise (· < ·)
  mem : ∀ u, u ∈ us ↔ u < c.length ∧ Useful c ini acc u
def spUs (C : Addr) : Sp := fun vs H Q _ => ∃ (x : Addr) (L : Int) (ini acc : List Int) (c : List (List (List Int))), vs = [.ref x] ∧ AutAt C H x L ini acc c ∧ VldB L ini acc c ∧ c.length ≤ 1000 ∧ (∀ r ∈ c, r.flatten.length ≤ 63) ∧
  ∀ (H' : Hp) (y : Addr) (us : List Nat), Same H H' → H y = none → H' y = some (.lst (us.map VN)) → Us c ini acc us → Q (.ref y) H'
theorem cal_us {C : Addr} (T : Txt K mg cA0 PA0 cA1 PA1) (PC : AutC K C) : C8.Cal P w K mg base 4 "useful_states" (spUs C) [] := by
  have C_state_graph : C8.Cal P w K mg base 1 "state_graph" (spSG C) [] := cal_sg T PC
  have C_on_cycles : C8.Cal P w K mg base 3 "on_cycles" spCyc [] := cal_cyc T
  have C_reachable : C8.Cal P w K mg base 1 "reachable" spRch [] := cal_rch T
  have C_reversed_graph : C8.Cal P w K mg base 1 "reversed_graph" spRevL [] := cal_revL T
  obtain ⟨f, fd, F, hm, hb⟩ := T.h_useful_states
  refine ⟨f, fd, _, [], F.ok sc_useful_states (fun vs H Q E h => ?_) (fun cdv A outer s H vs Q E hr h => ?_), hm, F.kp, hb, .nil⟩
  · obtain ⟨x, L, ini, acc, c, rfl, _⟩ := h
    rfl
  · obtain ⟨x, L, ini, acc, c, rfl, hA, hV, b1, b2, q⟩ := h
    refine ⟨_, (pss_cons
      (ps_set (i := 1) sc_useful_states.nd rfl (Or.inl rfl) (C8.pe_c C_state_graph hr (by decide) (by rfl) (pa_cons (pv 0) pa_nil)))
      (pss_cons
      (ps_set (i := 2) sc_useful_states.nd rfl (Or.inr rfl) (C8.pe_c C_on_cycles hr (by decide) (by rfl) (pa_cons (pv 1) pa_nil)))
      (pss_cons
      (ps_set (i := 3) sc_useful_states.nd rfl (Or.inr rfl) (C8.pe_c C_reachable hr (by decide) (by rfl) (pa_cons (pv 1) (pa_cons (pe_fld (pv 0) rfl) pa_nil))))
      (pss_cons
      (ps_set (i := 4) sc_useful_states.nd rfl (Or.inr rfl) (C8.pe_c C_reachable hr (by decide) (by rfl) (pa_cons (C8.pe_c C_reversed_graph hr (by decide) (by rfl) (pa_cons (pv 1) pa_nil)) (pa_cons (pe_lc (own := [("state", 5)]) (g := gName 5) rfl sc_useful_states.nd (pi_tup (pe_fld (pv 0) rfl)) (blkOk_by (N := N_useful_states) (sc := defScope s_useful_states) (by decide +kernel)) (fun _ _ _ _ _ => (pg_name (i := 5) sc_useful_states.nd rfl (Or.inl rfl))) (fun _ _ _ _ _ => (pts_one (pt_val (pe_ix (ix_listK (K := K) rfl) (pv 2) (pv 5) (fun _ _ => rfl))))) (fun _ _ _ _ _ => (pv 5))) pa_nil))))
      (pss_one
      (ps_ret (pe_lc (own := [("state", 5)]) (g := gName 5) rfl sc_useful_states.nd (pi_range1 (by rfl) T.z_range (pa_cons (pe_callB (call_lenK (K := K) rfl) (by rfl) T.z_len PySem.boot_len (pa_cons (pv 1) pa_nil)) pa_nil)) (blkOk_by (N := N_useful_states) (sc := defScope s_useful_states) (by decide +kernel)) (fun _ _ _ _ _ => (pg_name (i := 5) sc_useful_states.nd rfl (Or.inl rfl))) (fun _ _ _ _ _ => (pts_one (PW.pt (pw_and (pt_val (pe_ix (ix_listK (K := K) rfl) (pv 3) (pv 5) (fun _ _ => rfl))) (pw_and1 (pt_val (pe_ix (ix_listK (K := K) rfl) (pv 4) (pv 5) (fun _ _ => rfl)))))))) (fun _ _ _ _ _ => (pv 5))))))))), ?_⟩
    obtain ⟨dx, it, at_, rt, as, bss, e1, e2, e3, e4, e5⟩ := id hA
    have hini := hV.2.2.1
    have hacc := hV.2.2.2.1
    have eini := nat_map (xs := ini) fun x hx => (hini.2 x hx).1
    have eacc := nat_map (xs := acc) fun x hx => (hacc.2 x hx).1
    refine ⟨_, rfl, x, L, ini, acc, c, rfl, hA, hV, b1, b2, fun H1 y g s1 ny hG hg => ?_⟩
    have ok := hg.ok hV
    have hsm := hg.small b1
    have hgl := hg.len
    refine ⟨_, rfl, y, g, rfl, hG, ok, hsm, fun H2 yc cs s2 nyc ec hcs => ?_⟩
    have s02 := s1.trans s2
    refine ⟨_, rfl, _, rfl, x, C, dx, _, _, rfl, s02 _ _ e1, PC.cl, PC.nI, bf_i _ _ _ _, y, it, g, nat ini, rfl, hG.same s2, ok, hsm.1, .inr (by rw [eini]; exact s02 _ _ e2), fun s hs => ?_, by rw [nat_len]; have := asc_lt hini; omega, fun H3 yr rs s3 nyr er hrs => ?_⟩
    · rw [mem_nat (fun x hx => (hini.2 x hx).1)] at hs
      have := (hini.2 _ hs).2
      rw [hgl]; omega
    have s03 := s02.trans s3
    have hG3 := (hG.same s2).same s3
    refine ⟨_, rfl, y, g, rfl, hG3, ok, hsm, fun H4 yt t s4 nyt hT hrev => ?_⟩
    have s04 := s03.trans s4
    have ec4 := s4 _ _ (s3 _ _ ec)
    refine ⟨_, rfl, x, C, dx, _, _, rfl, s04 _ _ e1, PC.cl, PC.nA, bf_a _ _ _ _, at_, rfl, ⟨_, .of (s04 _ _ e3)⟩, fun D nD => lc_tup (K := K) (a := at_) (xs := acc.map V.int) (fun i H' => ∃ ls : List Nat, Same H4 H' ∧ H' D = some (.lst (ls.map VN)) ∧ ls.length ≤ i ∧ ∀ a, a ∈ ls ↔ ((a : Int) ∈ acc.take i ∧ Gr.Cyc g a))
      ⟨[], same_new nD, upd_same, Nat.le_refl 0, by simp⟩ (fun i H' _ ⟨_, z, _⟩ => .of (z _ _ (s04 _ _ e3))) ?_ ?_⟩
    · rintro i v H5 hi ⟨ls, s5, eD, hll, hls⟩
      obtain ⟨z, hz, rfl⟩ := mapg hi
      obtain ⟨z0, z1⟩ := hacc.2 z (List.mem_of_getElem? hz)
      obtain ⟨n, rfl⟩ : ∃ n : Nat, z = (n : Int) := ⟨z.toNat, by omega⟩
      obtain ⟨b, hb1, hb2⟩ := hcs.get (u := n) (by rw [hgl]; omega)
      have hil := lt_of_get hz
      have hal := asc_lt hacc
      refine ⟨rfl, _, rfl, _, rfl, yc, _, _, .bl b, rfl, rfl, .of (s5 _ _ ec4), atN hb1, b, rfl, ?_⟩
      cases b with
      | false =>
        refine iteB_f rfl ⟨ls, s5, eD, by omega, fun a => ?_⟩
        rw [take_succ'' hz, hls]
        constructor
        · rintro ⟨h1, h2⟩
          exact ⟨List.mem_append.mpr (.inl h1), h2⟩
        · rintro ⟨h1, h2⟩
          rcases List.mem_append.mp h1 with k | k
          · exact ⟨k, h2⟩
          · have : a = n := by have := List.mem_singleton.mp k; omega
            rw [this] at h2
            have := hb2.mpr h2
            cases this
      | true =>
        refine iteB_t rfl ⟨_, rfl, _, eD, by rw [List.length_map]; exact Nat.lt_of_le_of_lt (show ls.length ≤ 1000 by omega) (by decide), ls ++ [n], fun p o e => by rw [upd_ne (ne_of_none e nD)]; exact s5 _ _ e, by rw [upd_same, List.map_append]; rfl, by rw [List.length_append, List.length_singleton]; omega, fun a => ?_⟩
        rw [take_succ'' hz, List.mem_append, hls]
        constructor
        · rintro (⟨h1, h2⟩ | h)
          · exact ⟨List.mem_append.mpr (.inl h1), h2⟩
          · rw [List.mem_singleton.mp h]
            exact ⟨by simp, hb2.mp rfl⟩
        · rintro ⟨h1, h2⟩
          rcases List.mem_append.mp h1 with k | k
          · exact .inl ⟨k, h2⟩
          · have : a = n := by have := List.mem_singleton.mp k; omega
            exact .inr (by rw [this]; simp)
    rintro H5 ⟨ls, s5, eD, hll, hls⟩
    rw [List.length_map] at hll hls
    rw [List.take_length] at hls
    have s05 := s04.trans s5
    have hal := asc_lt hacc
    refine ⟨yt, D, t, ls, rfl, hT.same s5, rev_ok hrev, by rw [hrev.1]; exact hsm.1, .inl eD, fun a ha => ?_, by omega, fun H6 yl fs s6 nyl el hfs => ?_⟩
    · have := (hacc.2 _ ((hls a).mp ha).1).2
      rw [hrev.1, hgl]; omega
    have s06 := s05.trans s6
    have er6 := s6 _ _ (s5 _ _ (s4 _ _ er))
    have hG6 := ((hG3.same s4).same s5).same s6
    obtain ⟨gs, eg0, egl, _⟩ := id hG6
    refine ⟨_, rfl, y, _, rfl, .inl (.of eg0), _, rfl, by omega, by rw [List.length_map]; omega, fun U nU => ?_⟩
    rw [List.length_map, egl, Int.toNat_natCast, hgl]
    have hmem : ∀ i, i < c.length → (((∃ s ∈ nat ini, Gr.Rc g s i) ∧ ∃ s ∈ ls, Gr.Rc t s i) ↔ Useful c ini acc i) := fun i hi => by
      unfold Useful
      constructor
      · rintro ⟨⟨s, h1, h2⟩, a, h3, h4⟩
        rw [mem_nat (fun x hx => (hini.2 x hx).1)] at h1
        obtain ⟨h5, h6⟩ := (hls a).mp h3
        have hag : a < g.length := by have := (hacc.2 _ h5).2; omega
        have h7 := ((rev_rc ok hrev hag).mp h4).1
        exact ⟨⟨s, h1, by rw [Int.toNat_natCast]; exact (hg.rc hV _ _).mp h2⟩, a, h5, by rw [Int.toNat_natCast]; exact (hg.cyc hV _).mp h6, by rw [Int.toNat_natCast]; exact (hg.rc hV _ _).mp h7⟩
      · rintro ⟨⟨s, h1, h2⟩, a, h3, h4, h5⟩
        have hs0 := hini.2 s h1
        have ha0 := hacc.2 a h3
        refine ⟨⟨s.toNat, (mem_nat (fun x hx => (hini.2 x hx).1)).mpr (by rw [Int.toNat_of_nonneg hs0.1]; exact h1), (hg.rc hV _ _).mpr h2⟩, a.toNat, (hls _).mpr ⟨by rw [Int.toNat_of_nonneg ha0.1]; exact h3, (hg.cyc hV _).mpr h4⟩, ?_⟩
        exact (rev_rc ok hrev (by omega)).mpr ⟨(hg.rc hV _ _).mpr h5, by omega⟩
    have nU0 := s06.free nU
    refine lc_range (lo := 0) (n := c.length) (fun i H' => ∃ us : List Nat, Same H6 H' ∧ H' U = some (.lst (us.map VN)) ∧ us.length ≤ i ∧ us.Pairwise (· < ·) ∧ ∀ u, u ∈ us ↔ u < i ∧ Useful c ini acc u)
      ⟨[], same_new nU, upd_same, Nat.le_refl 0, by simp, by simp⟩ ?_ ?_
    · rintro i H7 hi ⟨us, s7, eU, hul, hpw, hus⟩
      rw [Int.zero_add]
      obtain ⟨b, hb1, hb2⟩ := hrs.get (u := i) (by omega)
      obtain ⟨b', hb3, hb4⟩ := hfs.get (u := i) (by rw [hrev.1]; omega)
      have hm := hmem i hi
      rw [← hb2, ← hb4] at hm
      have skip : ¬ Useful c ini acc i → ∀ u, u ∈ us ↔ u < i + 1 ∧ Useful c ini acc u := fun hno u => by
        rw [hus]
        exact ⟨fun ⟨a, b⟩ => ⟨by omega, b⟩, fun ⟨a, b⟩ => ⟨by
          rcases Nat.lt_succ_iff_lt_or_eq.mp a with k | k
          · exact k
          · exact absurd (k ▸ b) hno, b⟩⟩
      refine ⟨rfl, _, rfl, _, rfl, yr, _, _, .bl b, rfl, rfl, .of (s7 _ _ er6), atN hb1, b, rfl, ?_⟩
      cases b with
      | false =>
        refine iteB_f rfl (iteB_f rfl ⟨us, s7, eU, by omega, hpw, skip fun z => ?_⟩)
        have := (hm.mpr z).1
        cases this
      | true =>
        refine iteB_t rfl ⟨_, rfl, _, rfl, yl, _, _, .bl b', rfl, rfl, .of (s7 _ _ el), atN hb3, b', rfl, ?_⟩
        cases b' with
        | false =>
          refine iteB_f rfl ⟨us, s7, eU, by omega, hpw, skip fun z => ?_⟩
          have := (hm.mpr z).2
          cases this
        | true =>
          refine iteB_t rfl ⟨_, rfl, _, eU, by rw [List.length_map]; exact Nat.lt_of_le_of_lt (show us.length ≤ 1000 by omega) (by decide), us ++ [i], fun p o e => by rw [upd_ne (ne_of_none e nU)]; exact s7 _ _ e, by rw [upd_same, List.map_append]; rfl, by rw [List.length_append, List.length_singleton]; omega, ?_, fun u => ?_⟩
          · refine List.pairwise_append.mpr ⟨hpw, by simp, fun a ha b hb => ?_⟩
            rw [List.mem_singleton.mp hb]
            exact ((hus a).mp ha).1
          · rw [List.mem_append, hus]
            constructor
            · rintro (⟨h1, h2⟩ | h)
              · exact ⟨by omega, h2⟩
              · rw [List.mem_singleton.mp h]
                exact ⟨by omega, hm.mp ⟨rfl, rfl⟩⟩
            · rintro ⟨h1, h2⟩
              rcases Nat.lt_succ_iff_lt_or_eq.mp h1 with k | k
              · exact .inl ⟨k, h2⟩
              · exact .inr (by rw [k]; simp)
    · rintro H7 ⟨us, s7, eU, hul, hpw, hus⟩
      exact q H7 U us (s06.trans s7) nU0 eU ⟨hpw, hus⟩
/-- the new numbers of the states that have one -/
def ren (us : List Nat) (xs : List Int) : List Int := (xs.filter fun z => decide (z.toNat ∈ us)).map fun z => ((us.idxOf z.toNat : Nat) : Int)
theorem ren_snoc {us : List Nat} {xs : List Int} {z : Int} : ren us (xs ++ [z]) = if z.toNat ∈ us then ren us xs ++ [((us.idxOf z.toNat : Nat) : Int)] else ren us xs := by
  unfold ren
  rw [List.filter_append, List.map_append]
  by_cases h : z.toNat ∈ us
  · rw [if_pos h, List.filter_cons_of_pos (by simpa using h)]; rfl
  · rw [if_neg h, List.filter_cons_of_neg (by simpa using h)]; simp
theorem ren_len (us : List Nat) (xs : List Int) : (ren us xs).length ≤ xs.length := by
  unfold ren
  rw [List.length_map]
  exact List.length_filter_le _ _
theorem idx_get {us : List Nat} {u : Nat} (h : u ∈ us) : us[us.idxOf u]? = some u := by
  have hl := List.idxOf_lt_length_of_mem h
  rw [List.getElem?_eq_getElem hl, List.getElem_idxOf]
theorem idx_mono {us : List Nat} (pw : us.Pairwise (· < ·)) {a b : Nat} (ha : a ∈ us) (hb : b ∈ us) (h : a < b) : us.idxOf a < us.idxOf b := by
  have g1 := idx_get ha
  have g2 := idx_get hb
  rcases Nat.lt_trichotomy (us.idxOf a) (us.idxOf b) with k | k | k
  · exact k
  · rw [k, g2] at g1
    have := Option.some.inj g1
    omega
  · have l1 := lt_of_get g1
    have l2 := lt_of_get g2
    have := (List.pairwise_iff_getElem.mp pw) _ _ l2 l1 k
    rw [List.getElem?_eq_getElem l1] at g1
    rw [List.getElem?_eq_getElem l2] at g2
    have e1 := Option.some.inj g1
    have e2 := Option.some.inj g2
    omega
theorem mem_ren {us : List Nat} {xs : List Int} {y : Int} : y ∈ ren us xs ↔ ∃ z ∈ xs, z.toNat ∈ us ∧ y = ((us.idxOf z.toNat : Nat) : Int) := by
  unfold ren
  rw [List.mem_map]
  constructor
  · rintro ⟨z, hz, rfl⟩
    rw [List.mem_filter, decide_eq_true_iff] at hz
    exact ⟨z, hz.1, hz.2, rfl⟩
  · rintro ⟨z, h1, h2, rfl⟩
    exact ⟨z, List.mem_filter.mpr ⟨h1, decide_eq_true h2⟩, rfl⟩
theorem ren_asc {us : List Nat} (pw : us.Pairwise (· < ·)) {n : Int} {xs : List Int} (h : Asc n xs) : Asc (us.length : Int) (ren us xs) := by
  refine ⟨?_, fun y hy => ?_⟩
  · unfold ren
    rw [List.pairwise_map]
    have hf := List.Pairwise.filter (fun z => decide (z.toNat ∈ us)) h.1
    refine List.Pairwise.imp_of_mem (R := (· < ·)) (fun {a b} ha hb hab => ?_) hf
    rw [List.mem_filter, decide_eq_true_iff] at ha hb
    have ha0 := h.2 a ha.1
    have hb0 := h.2 b hb.1
    have := idx_mono pw ha.2 hb.2 (by omega)
    omega
  · obtain ⟨z, _, h2, rfl⟩ := mem_ren.mp hy
    have := List.idxOf_lt_length_of_mem h2
    omega
/-- the trimmed automaton -/
def trmI (us : List Nat) (ini : List Int) : List Int := ren us ini
def trmC (L : Int) (us : List Nat) (c : List (List (List Int))) : List (List (List Int)) := if us = [] then [List.replicate L.toNat []] else us.map fun u => (c.getD u []).map (ren us)
theorem getD_of {c : List (List (List Int))} {u : Nat} (h : u < c.length) : ∃ r, c[u]? = some r ∧ c.getD u [] = r := ⟨c[u], List.getElem?_eq_getElem h, by rw [List.getD_eq_getElem?_getD, List.getElem?_eq_getElem h]; rfl⟩
theorem trm_vld {L : Int} {ini acc : List Int} {c : List (List (List Int))} {us : List Nat} (hV : VldB L ini acc c) (hU : Us c ini acc us) : VldB L (ren us ini) (ren us acc) (trmC L us c) := by
  by_cases e : us = []
  · subst e
    have h0 : ∀ xs, ren [] xs = [] := fun xs => by unfold ren; simp
    unfold trmC
    rw [if_pos rfl, h0, h0]
    refine ⟨hV.1, by simp, asc_nil _, asc_nil _, fun r hr => ?_⟩
    rw [List.mem_singleton.mp hr]
    refine ⟨by rw [List.length_replicate]; have := hV.1; omega, fun x hx => ?_⟩
    rw [List.eq_of_mem_replicate hx]
    exact asc_nil _
  · unfold trmC
    rw [if_neg e]
    refine ⟨hV.1, by simpa using e, ?_, ?_, fun r hr => ?_⟩
    · rw [List.length_map]; exact ren_asc hU.pw hV.2.2.1
    · rw [List.length_map]; exact ren_asc hU.pw hV.2.2.2.1
    · obtain ⟨u, hu, rfl⟩ := List.mem_map.mp hr
      obtain ⟨r, h1, h2⟩ := getD_of ((hU.mem u).mp hu).1
      have h3 := hV.2.2.2.2 r (List.mem_of_getElem? h1)
      rw [h2, List.length_map, List.length_map]
      refine ⟨h3.1, fun x hx => ?_⟩
      obtain ⟨y, hy, rfl⟩ := List.mem_map.mp hx
      exact ren_asc hU.pw (h3.2 y hy)
def spRen : Sp := fun vs H Q _ => ∃ (a d : Addr) (xs : List Int) (us : List Nat), vs = [.ref a, .ref d] ∧ TupI H a xs ∧ H d = some (.dK (numK us)) ∧ (∀ x ∈ xs, 0 ≤ x) ∧ xs.length ≤ 100000 ∧
  ∀ (H' : Hp) (y : Addr), Same H H' → H y = none → H' y = some (.lst ((ren us xs).map V.int)) → Q (.ref y) H'
theorem cal_ren (T : Txt K mg cA0 PA0 cA1 PA1) : C8.Cal P w K mg base 1 "renumbered" spRen [] := by
  obtain ⟨f, fd, F, hm, hb⟩ := T.h_renumbered
  refine ⟨f, fd, _, [], F.ok sc_renumbered (fun vs H Q E h => ?_) (fun cdv A outer s H vs Q E hr h => ?_), hm, F.kp, hb, .nil⟩
  · obtain ⟨a, d, xs, us, rfl, _⟩ := h
    rfl
  · obtain ⟨a, d, xs, us, rfl, ha, hd, hx, hl, q⟩ := h
    refine ⟨_, (pss_one
      (ps_ret (pe_lc (own := [("state", 2)]) (g := gName 2) rfl sc_renumbered.nd (pi_tup (pv 0)) (blkOk_by (N := N_renumbered) (sc := defScope s_renumbered) (by decide +kernel)) (fun _ _ _ _ _ => (pg_name (i := 2) sc_renumbered.nd rfl (Or.inl rfl))) (fun _ _ _ _ _ => (pts_one (pt_cmp (pc_din (hu_of hr) (pv 2) (pv 1))))) (fun _ _ _ _ _ => (pe_dget (hu_of hr) (pv 1) (pv 2) (fun _ _ => rfl)))))), ?_⟩
    have ha' : H a = some (.tup (xs.map V.int)) := ha
    refine ⟨_, rfl, a, rfl, ⟨_, .of ha'⟩, fun D nD => lc_tup (K := K) (a := a) (xs := xs.map V.int) (fun i H' => Same H H' ∧ H' D = some (.lst ((ren us (xs.take i)).map V.int)))
      ⟨same_new nD, upd_same⟩ (fun i H' _ ⟨z, _⟩ => .of (z _ _ ha')) ?_ ?_⟩
    · rintro i v H5 hi ⟨s5, eD⟩
      obtain ⟨z, hz, rfl⟩ := mapg hi
      have hz0 := hx z (List.mem_of_getElem? hz)
      refine ⟨rfl, _, rfl, _, rfl, d, _, rfl, DGet.k (k := Sum.inl z) (s5 _ _ hd), _, rfl, ?_⟩
      rw [take_succ'' hz, ren_snoc]
      by_cases hm : z.toNat ∈ us
      · rw [show valV (numK us) (Sum.inl z : L2.Key) = some (VN (us.idxOf z.toNat)) by rw [numK_val, if_pos ⟨hm, hz0⟩], if_pos hm]
        refine iteB_t rfl ⟨_, rfl, _, rfl, d, VN (us.idxOf z.toNat), rfl, ?_, _, eD, ?_, fun p o e => by rw [upd_ne (ne_of_none e nD)]; exact s5 _ _ e, by rw [upd_same, List.map_append]; rfl⟩
        · have := DGet.k (k := Sum.inl z) (s5 _ _ hd)
          rw [numK_val, if_pos ⟨hm, hz0⟩] at this
          exact this
        · rw [List.length_map]
          have h1 := ren_len us (xs.take i)
          rw [List.length_take] at h1
          exact Nat.lt_of_le_of_lt (show (ren us (xs.take i)).length ≤ 100000 by omega) (by decide)
      · rw [show valV (numK us) (Sum.inl z : L2.Key) = none by rw [numK_val, if_neg (fun q => hm q.1)], if_neg hm]
        exact iteB_f rfl ⟨s5, eD⟩
    · rintro H5 ⟨s5, eD⟩
      rw [List.length_map, List.take_length] at eD
      exact q H5 D s5 nD eD
def spEmp (C : Addr) : Sp := fun vs H Q _ => ∃ (L : Int), vs = [.int L] ∧ 1 ≤ L ∧ L ≤ 1000 ∧ ∀ (H' : Hp) (y : Addr), Same H H' → AutAt C H' y L [] [] [List.replicate L.toNat []] → Q (.ref y) H'
theorem cal_emp {cI C fI : Addr} {fdI : FuncData} (T : Txt K mg cA0 PA0 cA1 PA1) (eI : ErrC K mg "InvalidAutomaton" cI) (PC : AutC K C) (hM : Mk K C fI) (gC : mg "Automaton" = some (.ref C)) (F0 : L2.Fun K "__init__" "Automaton.__init__" s_Automaton_init fI fdI) (hB : Binds K fdI ["self", "letters", "initial", "accepting", "rows"] []) : C8.Cal P w K mg base 4 "empty_automaton" (spEmp C) [] := by
  have MK : MakX P w K mg base 2 "Automaton" C (spInitS C cI) := ⟨fI, fdI, _, hM, ok_initS T eI PC F0, gC, hB⟩
  obtain ⟨f, fd, F, hm, hb⟩ := T.h_empty_automaton
  refine ⟨f, fd, _, [], F.ok sc_empty_automaton (fun vs H Q E h => ?_) (fun cdv A outer s H vs Q E hr h => ?_), hm, F.kp, hb, .nil⟩
  · obtain ⟨L, rfl, _⟩ := h
    rfl
  · obtain ⟨L, rfl, hL1, hL2, q⟩ := h
    refine ⟨_, (pss_one
      (ps_ret (pe_makeN MK hr (by decide) (by rfl) (pa_cons (pv 0) (pa_cons (pe_lst pa_nil) (pa_cons (pe_lst pa_nil) (pa_cons (pe_lst (pa_cons (pe_op op_rep (pe_lst (pa_cons (pe_lst pa_nil) pa_nil)) (pv 0)) pa_nil)) pa_nil))))))), ?_⟩
    refine ⟨_, rfl, Nat.zero_le _, fun a na => ?_⟩
    generalize hX : upd H a _ = H1; obtain ⟨sH1, ea⟩ := nw na hX; clear hX
    refine ⟨Nat.zero_le _, fun b nb => ?_⟩
    generalize hX : upd H1 b _ = H2; obtain ⟨sH2, eb⟩ := nw nb hX; clear hX
    refine ⟨Nat.zero_le _, fun e ne => ?_⟩
    generalize hX : upd H2 e _ = H3; obtain ⟨sH3, ee⟩ := nw ne hX; clear hX
    refine ⟨by show 1 ≤ sizeLine; decide, fun l nl => ?_⟩
    generalize hX : upd H3 l _ = H4; obtain ⟨sH4, el⟩ := nw nl hX; clear hX
    refine ⟨_, rfl, l, _, _, rfl, rfl, el, by omega, by omega, ?_, fun r nr => ?_⟩
    · show 1 * L.toNat ≤ 16777216
      omega
    rw [show (List.replicate L.toNat [V.ref e]).flatten = (List.replicate L.toNat e).map V.ref by simp]
    generalize hX : upd H4 r _ = H5; obtain ⟨sH5, er⟩ := nw nr hX; clear hX
    refine ⟨by show 1 ≤ sizeLine; decide, fun o no => ?_⟩
    generalize hX : upd H5 o _ = H6; obtain ⟨sH6, eo⟩ := nw no hX; clear hX
    refine fun x dx hx hdx hne => ?_
    have s7 := same_fresh (C := C) hx hdx
    have ea7 := s7 _ _ (sH6 _ _ (sH5 _ _ (sH4 _ _ (sH3 _ _ (sH2 _ _ ea)))))
    have eb7 := s7 _ _ (sH6 _ _ (sH5 _ _ (sH4 _ _ (sH3 _ _ eb))))
    have ee7 := s7 _ _ (sH6 _ _ (sH5 _ _ (sH4 _ _ ee)))
    have er7 := s7 _ _ (sH6 _ _ er)
    have eo7 := s7 _ _ eo
    have hV : VldB L [] [] [List.replicate L.toNat []] := by
      refine ⟨hL1, by simp, asc_nil _, asc_nil _, fun r hr => ?_⟩
      rw [List.mem_singleton.mp hr]
      refine ⟨by rw [List.length_replicate]; omega, fun x hx => ?_⟩
      rw [List.eq_of_mem_replicate hx]
      exact asc_nil _
    refine ⟨x, a, b, o, dx, L, [], [], [r], [List.replicate L.toNat []], rfl, upd_same, .inl ea7, .inl eb7, ⟨eo7, rfl, fun i a' ha => ?_⟩, by show 1 ≤ 1000; decide, fun r hr => ?_, fun z => absurd hV z, fun _ H8 k8 A8 => ⟨rfl, ?_⟩⟩
    · obtain ⟨rfl, rfl⟩ : i = 0 ∧ a' = r := by
        cases i with
        | zero => exact ⟨rfl, (Option.some.inj ha).symm⟩
        | succ i => simp at ha
      refine ⟨List.replicate L.toNat e, _, rfl, er7, by simp, fun j b' hb => ?_⟩
      have hj := lt_of_get hb
      rw [List.length_replicate] at hj
      rw [List.getElem?_replicate, if_pos hj] at hb
      obtain rfl := Option.some.inj hb
      exact ⟨[], by rw [List.getElem?_replicate, if_pos hj], .inl ee7⟩
    · rw [List.mem_singleton.mp hr, List.length_replicate]; omega
    · exact q H8 x (((((((sH1.trans sH2).trans sH3).trans sH4).trans sH5).trans sH6)).trans (same_made hx hdx k8)) A8
structure LCn (H : Hp) (D : Addr) (as : List Addr) (c : List (List (List Int))) : Prop where
  at_ : H D = some (.lst (as.map V.ref))
  len : as.length = c.length
  g : ∀ (i : Nat) (a : Addr), as[i]? = some a → a ≠ D ∧ ∃ (bs : List Addr) (row : List (List Int)), c[i]? = some row ∧ H a = some (.lst (bs.map V.ref)) ∧ bs.length = row.length ∧ ∀ (j : Nat) (b : Addr), bs[j]? = some b → b ≠ D ∧ ∃ e, row[j]? = some e ∧ H b = some (.lst (e.map V.int))
theorem LCn.same {H H' : Hp} {D : Addr} {as : List Addr} {c : List (List (List Int))} (s : Same H H') (h : LCn H D as c) : LCn H' D as c := ⟨s _ _ h.at_, h.len, fun i a e => by
  obtain ⟨n, bs, row, h1, h2, h3, h4⟩ := h.g i a e
  refine ⟨n, bs, row, h1, s _ _ h2, h3, fun j b hb => ?_⟩
  obtain ⟨n, e, h5, h6⟩ := h4 j b hb
  exact ⟨n, e, h5, s _ _ h6⟩⟩
theorem LCn.lcs {H : Hp} {D : Addr} {as : List Addr} {c : List (List (List Int))} (h : LCn H D as c) : LCs H D as c := ⟨h.at_, h.len, fun i a e => by
  obtain ⟨_, bs, row, h1, h2, h3, h4⟩ := h.g i a e
  exact ⟨bs, row, h1, h2, h3, fun j b hb => by
    obtain ⟨_, e, h5, h6⟩ := h4 j b hb
    exact ⟨e, h5, .inl h6⟩⟩⟩
theorem LCn.snoc {H : Hp} {D a : Addr} {as bs : List Addr} {c : List (List (List Int))} {row : List (List Int)} (h : LCn H D as c) (na : a ≠ D) (ha : H a = some (.lst (bs.map V.ref))) (hl : bs.length = row.length) (hb : ∀ (j : Nat) (b : Addr), bs[j]? = some b → b ≠ D ∧ ∃ e, row[j]? = some e ∧ H b = some (.lst (e.map V.int))) : LCn (upd H D (.lst (as.map V.ref ++ [V.ref a]))) D (as ++ [a]) (c ++ [row]) := by
  refine ⟨by rw [upd_same, List.map_append]; rfl, by rw [List.length_append, List.length_append, h.len]; rfl, fun i x e => ?_⟩
  have tr : ∀ (bs : List Addr) (row : List (List Int)), (∀ (j : Nat) (b : Addr), bs[j]? = some b → b ≠ D ∧ ∃ e, row[j]? = some e ∧ H b = some (.lst (e.map V.int))) → ∀ (j : Nat) (b : Addr), bs[j]? = some b → b ≠ D ∧ ∃ e, row[j]? = some e ∧ (upd H D (.lst (as.map V.ref ++ [V.ref a]))) b = some (.lst (e.map V.int)) := fun bs row k j b hb => by
    obtain ⟨n, e, h5, h6⟩ := k j b hb
    exact ⟨n, e, h5, by rw [upd_ne n]; exact h6⟩
  rcases snocg e with ⟨_, k⟩ | ⟨k1, k2⟩
  · obtain ⟨n, bs', row', h1, h2, h3, h4⟩ := h.g i x k
    exact ⟨n, bs', row', by rw [List.getElem?_append_left (lt_of_get h1)]; exact h1, by rw [upd_ne n]; exact h2, h3, tr _ _ h4⟩
  · subst k2
    exact ⟨na, bs, row, by rw [List.getElem?_append_right (by rw [k1, h.len]; exact Nat.le_refl _), show i - c.length = 0 by rw [k1, h.len]; omega]; rfl, by rw [upd_ne na]; exact ha, hl, tr _ _ hb⟩
abbrev tScope : Scope := { kind := ScopeKind.function, names := [(".0", NameKind.local), ("state", NameKind.local), ("automaton", NameKind.cell), ("numbers", NameKind.cell)], isGenerator := false, isCoroutine := false }
def spTrim (C : Addr) : Sp := fun vs H Q _ => ∃ (x : Addr) (L : Int) (ini acc : List Int) (c : List (List (List Int))), vs = [.ref x] ∧ AutAt C H x L ini acc c ∧ VldB L ini acc c ∧ c.length ≤ 1000 ∧ L ≤ 1000 ∧ (∀ r ∈ c, r.flatten.length ≤ 63) ∧
  ∀ (H' : Hp) (y : Addr) (us : List Nat), Same H H' → Us c ini acc us → AutAt C H' y L (ren us ini) (ren us acc) (trmC L us c) → Q (.ref y) H'
theorem cal_trim {cI C fI : Addr} {fdI : FuncData} (T : Txt K mg cA0 PA0 cA1 PA1) (eI : ErrC K mg "InvalidAutomaton" cI) (PC : AutC K C) (hM : Mk K C fI) (gC : mg "Automaton" = some (.ref C)) (F0 : L2.Fun K "__init__" "Automaton.__init__" s_Automaton_init fI fdI) (hB : Binds K fdI ["self", "letters", "initial", "accepting", "rows"] []) : C8.Cal P w K mg base 5 "trim" (spTrim C) [] := by
  have MK : MakX P w K mg base 2 "Automaton" C (spInitS C cI) := ⟨fI, fdI, _, hM, ok_initS T eI PC F0, gC, hB⟩
  have C_useful_states : C8.Cal P w K mg base 4 "useful_states" (spUs C) [] := cal_us T PC
  have C_empty_automaton : C8.Cal P w K mg base 4 "empty_automaton" (spEmp C) [] := cal_emp T eI PC hM gC F0 hB
  have C_renumbered : C8.Cal P w K mg base 1 "renumbered" spRen [] := cal_ren T
  obtain ⟨f, fd, F, hm, hb⟩ := T.h_trim
  refine ⟨f, fd, _, [], F.ok sc_trim (fun vs H Q E h => ?_) (fun cdv A outer s H vs Q E hr h => ?_), hm, F.kp, hb, .nil⟩
  · obtain ⟨x, L, ini, acc, c, rfl, _⟩ := h
    rfl
  · obtain ⟨x, L, ini, acc, c, rfl, hA, hV, b1, b2, b3, q⟩ := h
    refine ⟨_, (pss_cons
      (ps_set (i := 1) sc_trim.nd rfl (Or.inl rfl) (C8.pe_c C_useful_states hr (by decide) (by rfl) (pa_cons (pv 0) pa_nil)))
      (pss_cons
      (ps_if (pt_cmpR op_eq (pe_callB (call_lenK (K := K) rfl) (by rfl) T.z_len PySem.boot_len (pa_cons (pv 1) pa_nil)) pe_int (nomark _)) (pss_one
      (ps_ret (C8.pe_c C_empty_automaton hr (by decide) (by rfl) (pa_cons (pe_fld (pv 0) rfl) pa_nil)))) pss_nil)
      (pss_cons
      (ps_set (i := 2) sc_trim.nd rfl (Or.inr rfl) (pe_dc (own := [("at", 5), ("state", 6)]) (g := gTup K 2 (gCons (gName 5) (gCons (gName 6) gNil))) (tt := tYes) rfl sc_trim.nd (pi_enum (by rfl) T.z_enumerate (pa_cons (pv 1) pa_nil)) (blkOk_by (N := N_trim) (sc := defScope s_trim) (by decide +kernel)) (fun _ _ _ _ _ => (pg_tup (by rfl) (pgs_cons (pg_name (i := 5) sc_trim.nd rfl (Or.inl rfl)) (pgs_cons (pg_name (i := 6) sc_trim.nd rfl (Or.inl rfl)) pgs_nil)))) (fun _ _ _ _ _ => pts_nil) (fun _ _ _ _ _ => (pv 6)) (fun _ _ _ _ _ => (pv 5))))
      (pss_cons
      (ps_setLc (i := 3) (own := [("state", 6)]) (g := gName 6) (tt := tYes) rfl sc_trim.nd rfl rfl (sw_true rfl rfl rfl (by decide +kernel)) (pi_list (pv 1)) (blkOk_by (N := N_trim) (sc := defScope s_trim) (by decide +kernel)) (fun _ _ _ _ _ => (pg_name (i := 6) sc_trim.nd rfl (by first | exact Or.inl rfl | exact Or.inr rfl))) (fun _ _ _ _ _ => pts_nil) (fun _ _ _ _ _ => (pe_lc (own := [("states", 7)]) (g := gName 7) (tt := tYes) rfl sc_trim.nd (pi_tupK (K := K) rfl (pe_ix (ix_tupK (K := K) rfl) (pe_fldK (K := K) rfl (pv 0) rfl) (pv 6) (fun _ _ => rfl))) (blkOk_by (N := N_trim) (sc := tScope) (by decide +kernel)) (fun _ _ _ _ _ => (pg_name (i := 7) sc_trim.nd rfl (Or.inl rfl))) (fun _ _ _ _ _ => pts_nil) (fun _ _ _ _ _ => (C8.pe_c C_renumbered hr (by decide) (by rfl) (pa_cons (pv 7) (pa_cons (pv 2) pa_nil)))))))
      (pss_cons
      (ps_set (i := 4) sc_trim.nd rfl (Or.inl rfl) (C8.pe_c C_renumbered hr (by decide) (by rfl) (pa_cons (pe_fld (pv 0) rfl) (pa_cons (pv 2) pa_nil))))
      (pss_one
      (ps_ret (pe_makeN MK hr (by decide) (by rfl) (pa_cons (pe_fld (pv 0) rfl) (pa_cons (pv 4) (pa_cons (C8.pe_c C_renumbered hr (by decide) (by rfl) (pa_cons (pe_fld (pv 0) rfl) (pa_cons (pv 2) pa_nil))) (pa_cons (pv 3) pa_nil)))))))))))), ?_⟩
    obtain ⟨dx, it, at_, rt, as, bss, e1, e2, e3, e4, e5⟩ := id hA
    have hini := hV.2.2.1
    have hacc := hV.2.2.2.1
    refine ⟨_, rfl, x, L, ini, acc, c, rfl, hA, hV, b1, b3, fun H1 U us s1 nU eU hU => ?_⟩
    have hvld := trm_vld hV hU
    refine ⟨_, rfl, U, _, rfl, .inl (.of eU), rfl, _, rfl, ite_eq (fun cc => ?_) (fun cc => ?_)⟩
    · have hnil : us = [] := by
        cases us with
        | nil => rfl
        | cons u us => rw [List.length_map, List.length_cons] at cc; omega
      refine ⟨_, rfl, x, C, dx, _, _, rfl, s1 _ _ e1, PC.cl, PC.nL, bf_L _ _ _ _, L, rfl, hV.1, b2, fun H2 y s2 A2 => ?_⟩
      refine q H2 y us (s1.trans s2) hU ?_
      subst hnil
      have h0 : ∀ xs, ren [] xs = [] := fun xs => by unfold ren; simp
      unfold trmC
      rw [if_pos rfl, h0, h0]
      exact A2
    have hne : us ≠ [] := fun z => cc (by rw [z]; rfl)
    have hlt : ∀ u ∈ us, u < c.length := fun u hu => ((hU.mem u).mp hu).1
    have hul : us.length ≤ 1000 := by
      have := nd_len (l := us) (n := c.length) (by rw [List.nodup_iff_pairwise_ne]; exact hU.pw.imp (fun h => Nat.ne_of_lt h)) hlt
      omega
    have hnd : us.Nodup := by rw [List.nodup_iff_pairwise_ne]; exact hU.pw.imp (fun h => Nat.ne_of_lt h)
    refine ⟨_, rfl, U, _, rfl, .of eU, fun d nd => dc_it (walk_enum (K := K) (a := U) (xs := us.map VN)) (fun i H' => Same H1 H' ∧ H' d = some (.dK (numK (us.take i))))
      ⟨same_new nd, upd_same⟩ (fun i H' _ ⟨z, _⟩ => .of (z _ _ eU)) ?_ ?_⟩
    · rintro i v H3 H4 hi ⟨s3, ed⟩ ⟨p, xi, y, rfl, np, rfl, hx, hy⟩
      obtain rfl := Option.some.inj hx
      obtain ⟨u, hu, rfl⟩ := nats_get hy
      generalize hX : upd H3 p _ = H4; obtain ⟨sH4, ep⟩ := nw np hX; clear hX
      refine ⟨p, _, rfl, .of ep, rfl, _, _, rfl, _, _, rfl, rfl, rfl, ?_⟩
      have ed4 := sH4 _ _ ed
      have hil := lt_of_get hu
      have hni : u ∉ us.take i := fun hm => by
        obtain ⟨j, hj⟩ := List.mem_iff_getElem?.mp hm
        rw [List.getElem?_take] at hj
        split at hj
        · rename_i hji
          have := nd_inj hnd hj hu
          omega
        · cases hj
      have hput := numK_put hni
      rw [List.length_take, Nat.min_eq_left (Nat.le_of_lt hil)] at hput
      refine ⟨_, rfl, _, rfl, _, Sum.inl (u : Int), rfl, ed4, by rw [numK_len, List.length_take]; exact Nat.lt_of_le_of_lt (show min i us.length ≤ 1000 by omega) (by decide), fun a o e => by rw [upd_ne (ne_of_none e nd)]; exact (s3.trans sH4) _ _ e, ?_⟩
      show upd H4 d (.dK (putK (numK (us.take i)) (Sum.inl (u : Int)) (VN i))) d = _
      rw [upd_same, hput, take_succ'' hu]
    rintro H3 ⟨s3, ed⟩
    rw [List.length_map, List.take_length] at ed
    have s03 := s1.trans s3
    have eU3 := s3 _ _ eU
    refine ⟨_, rfl, U, rfl, ⟨_, .of eU3⟩, fun R nR => lc_list (K := K) (a := U) (xs := us.map VN) (fun i H' => ∃ ys : List Addr, Same H3 H' ∧ LCn H' R ys ((us.take i).map fun u => (c.getD u []).map (ren us)))
      ⟨[], same_new nR, ⟨upd_same, rfl, fun i a h => by (cases h)⟩⟩ (fun i H' _ ⟨_, z, _⟩ => .of (z _ _ eU3)) ?_ ?_⟩
    · rintro i v H4 hi ⟨ys, s4, hL⟩
      obtain ⟨u, hu, rfl⟩ := nats_get hi
      have hus := hlt u (List.mem_of_getElem? hu)
      obtain ⟨r, hr1, hr2⟩ := getD_of hus
      obtain ⟨a, haa⟩ : ∃ a, as[u]? = some a := ⟨_, List.getElem?_eq_getElem (by rw [(cub_len e5).1]; exact hus)⟩
      obtain ⟨bs, row, hbs, hrow, hra, hRw⟩ := cub_get e5 haa
      rw [hr1] at hrow
      obtain rfl := Option.some.inj hrow
      have hrV := hV.2.2.2.2 r (List.mem_of_getElem? hr1)
      have s04 := s03.trans s4
      refine ⟨rfl, _, rfl, x, C, dx, _, _, rfl, s04 _ _ e1, PC.cl, PC.nR, bf_r _ _ _ _, _, rfl, rt, _, _, .ref a, rfl, rfl, .of (s04 _ _ e4), atN haa, a, rfl, ⟨_, .of (s04 _ _ hra)⟩, fun D nD => ?_⟩
      have nDR : D ≠ R := fun z => by rw [z, hL.at_] at nD; cases nD
      refine lc_tup (K := K) (a := a) (xs := bs.map V.ref) (fun j H' => ∃ zs : List Addr, Same H4 H' ∧ H' D = some (.lst (zs.map V.ref)) ∧ zs.length = j ∧ ∀ (m : Nat) (b : Addr), zs[m]? = some b → b ≠ R ∧ b ≠ D ∧ ∃ e, (r.map (ren us))[m]? = some e ∧ H' b = some (.lst (e.map V.int)))
        ⟨[], same_new nD, upd_same, rfl, fun m b h => by (cases h)⟩ (fun j H' _ ⟨_, z, _⟩ => .of (z _ _ (s04 _ _ hra))) ?_ ?_
      · rintro j v H5 hj ⟨zs, s5, eD, hzl, hzs⟩
        obtain ⟨b, hb, rfl⟩ := refsg hj
        obtain ⟨e, he, hbe⟩ := hRw.get hb
        have heA := hrV.2 e (List.mem_of_getElem? he)
        have s05 := s04.trans s5
        have hel := asc_lt heA
        refine ⟨rfl, _, rfl, _, rfl, b, d, e, us, rfl, s05 _ _ hbe, s5 _ _ (s4 _ _ ed), fun z hz => (heA.2 z hz).1, by omega, fun H6 y s6 ny ey => ?_⟩
        have nyD : y ≠ D := fun z => by rw [z, eD] at ny; cases ny
        have nyR : y ≠ R := fun z => by rw [z, s5 _ _ hL.at_] at ny; cases ny
        have hjl := lt_of_get he
        have hrL := hrV.1
        refine ⟨_, s6 _ _ eD, by rw [List.length_map, hzl]; exact Nat.lt_of_le_of_lt (show j ≤ 1000 by omega) (by decide), zs ++ [y], fun p o e => by rw [upd_ne (ne_of_none e nD)]; exact s6 _ _ (s5 _ _ e), by rw [upd_same, List.map_append]; rfl, by rw [List.length_append, hzl]; rfl, fun m b' hm => ?_⟩
        rcases snocg hm with ⟨_, k⟩ | ⟨k1, k2⟩
        · obtain ⟨n1, n2, e', h1, h2⟩ := hzs m b' k
          exact ⟨n1, n2, e', h1, by rw [upd_ne n2]; exact s6 _ _ h2⟩
        · subst k2
          exact ⟨nyR, nyD, ren us e, by rw [k1, hzl, List.getElem?_map, he]; rfl, by rw [upd_ne nyD]; exact ey⟩
      · rintro H5 ⟨zs, s5, eD, hzl, hzs⟩
        rw [List.length_map, hRw.len] at hzl
        have hL5 := hL.same s5
        have hil := lt_of_get hu
        have hyl := hL.len
        rw [List.length_map, List.length_take] at hyl
        refine ⟨_, hL5.at_, by rw [List.length_map]; exact Nat.lt_of_le_of_lt (show ys.length ≤ 1000 by omega) (by decide), ys ++ [D], fun p o e => by rw [upd_ne (ne_of_none e nR)]; exact s5 _ _ (s4 _ _ e), ?_⟩
        rw [take_succ'' hu, List.map_append]
        refine hL5.snoc nDR eD (by rw [hzl]; show r.length = ((c.getD u []).map (ren us)).length; rw [hr2, List.length_map]) fun m b hm => ?_
        obtain ⟨n1, n2, e', h1, h2⟩ := hzs m b hm
        exact ⟨n1, e', by show ((c.getD u []).map (ren us))[m]? = _; rw [hr2]; exact h1, h2⟩
    rintro H4 ⟨ys, s4, hL⟩
    rw [List.length_map, List.take_length] at hL
    have s04 := s03.trans s4
    have ed4 := s4 _ _ ed
    refine ⟨_, rfl, x, C, dx, _, _, rfl, s04 _ _ e1, PC.cl, PC.nI, bf_i _ _ _ _, _, rfl, it, d, ini, us, rfl, s04 _ _ e2, ed4, fun z hz => (hini.2 z hz).1, by have := asc_lt hini; omega, fun H5 y s5 ny ey => ?_⟩
    have s05 := s04.trans s5
    refine ⟨_, rfl, x, C, dx, _, _, rfl, s05 _ _ e1, PC.cl, PC.nL, bf_L _ _ _ _, _, rfl, _, rfl, x, C, dx, _, _, rfl, s05 _ _ e1, PC.cl, PC.nA, bf_a _ _ _ _, _, rfl, at_, d, acc, us, rfl, s05 _ _ e3, s5 _ _ ed4, fun z hz => (hacc.2 z hz).1, by have := asc_lt hacc; omega, fun H6 y2 s6 ny2 ey2 => ?_⟩
    have s06 := s05.trans s6
    refine ⟨_, rfl, fun z dz hz hdz hnz => ?_⟩
    have s7 := same_fresh (C := C) hz hdz
    have htc : trmC L us c = us.map fun u => (c.getD u []).map (ren us) := by unfold trmC; rw [if_neg hne]
    rw [← htc] at hL
    have hL7 := ((hL.same s5).same s6).same s7
    refine ⟨z, y, y2, R, dz, L, ren us ini, ren us acc, ys, trmC L us c, rfl, upd_same, .inl (s7 _ _ (s6 _ _ ey)), .inl (s7 _ _ ey2), hL7.lcs, ?_, fun r hr => ?_, fun h => absurd hvld h, fun _ H8 k8 A8 => ⟨rfl, ?_⟩⟩
    · rw [htc, List.length_map]; exact hul
    · have := (hvld.2.2.2.2 r hr).1
      omega
    · exact q H8 z us (s06.trans (same_made hz hdz k8)) hU A8
/-! explore: nodes are tuples of whole numbers -/
abbrev Kk := List Int
def keyT (k : Kk) : List L2.Key := k.map Sum.inl
theorem keyT_inj {a b : Kk} (h : keyT a = keyT b) : a = b := by
  unfold keyT at h
  exact List.map_inj_right (fun x y e => Sum.inl.inj e) |>.mp h
theorem keyT_kV (k : Kk) : (keyT k).map L2.kV = k.map V.int := by
  unfold keyT
  rw [List.map_map]
  rfl
def numT (us : List Kk) : List (List L2.Key × V) := us.zipIdx.map fun p => (keyT p.1, VN p.2)
theorem numT_len (us : List Kk) : (numT us).length = us.length := by unfold numT; rw [List.length_map, List.length_zipIdx]
theorem numT_snoc (us : List Kk) (u : Kk) : numT (us ++ [u]) = numT us ++ [(keyT u, VN us.length)] := by
  unfold numT
  rw [List.zipIdx_append, List.map_append]
  simp
theorem numT_put {us : List Kk} {u : Kk} (h : u ∉ us) : putK (numT us) (keyT u) (VN us.length) = numT (us ++ [u]) := by
  rw [numT_snoc]
  unfold putK
  rw [if_neg ?_]
  intro z
  rw [List.any_eq_true] at z
  obtain ⟨kv, hm, e⟩ := z
  have e := of_decide_eq_true e
  unfold numT at hm
  obtain ⟨p, hp, rfl⟩ := List.mem_map.mp hm
  have e2 : p.1 = u := keyT_inj e
  have := List.mem_zipIdx' hp
  exact h (by rw [← e2]; exact this.2 ▸ List.getElem_mem _)
theorem numT_valF (z : Kk) : ∀ (us : List Kk) (k : Nat), ((us.zipIdx k).map fun p => (keyT p.1, VN p.2)).find? (fun kv => decide (kv.1 = keyT z)) = if z ∈ us then some (keyT z, VN (us.idxOf z + k)) else none
  | [], k => by simp
  | u :: us, k => by
    rw [List.zipIdx_cons, List.map_cons, List.find?_cons]
    by_cases e : u = z
    · subst e
      rw [decide_eq_true (show keyT u = keyT u from rfl), if_pos List.mem_cons_self, List.idxOf_cons_self, Nat.zero_add]
    · rw [decide_eq_false (by intro h; exact e (keyT_inj h)), numT_valF z us (k + 1)]
      have hiff : z ∈ u :: us ↔ z ∈ us := by simp [show z ≠ u from fun h => e h.symm]
      simp only [hiff]
      split
      · have e2 : (u :: us).idxOf z + k = us.idxOf z + (k + 1) := by
          rw [List.idxOf_cons, show (u == z) = false by simpa using e]
          show us.idxOf z + 1 + k = _
          omega
        rw [e2]
      · rfl
theorem numT_val (us : List Kk) (z : Kk) : valV (numT us) (keyT z) = if z ∈ us then some (VN (us.idxOf z)) else none := by
  unfold valV numT
  have := numT_valF z us 0
  rw [show us.zipIdx = us.zipIdx 0 from rfl, this]
  split <;> rfl
/-- the tuples of the keys -/
def Tps (H : Hp) (as : List Addr) (ks : List Kk) : Prop := as.length = ks.length ∧ ∀ (i : Nat) (a : Addr), as[i]? = some a → ∃ k, ks[i]? = some k ∧ H a = some (.tup (k.map V.int))
theorem Tps.same {H H' : Hp} {as : List Addr} {ks : List Kk} (s : ∀ b xs, H b = some (.tup xs) → H' b = some (.tup xs)) (h : Tps H as ks) : Tps H' as ks := ⟨h.1, fun i a e => by
  obtain ⟨k, h1, h2⟩ := h.2 i a e
  exact ⟨k, h1, s _ _ h2⟩⟩
theorem Tps.snoc {H : Hp} {as : List Addr} {ks : List Kk} {a : Addr} {k : Kk} (h : Tps H as ks) (e : H a = some (.tup (k.map V.int))) : Tps H (as ++ [a]) (ks ++ [k]) := by
  refine ⟨by rw [List.length_append, List.length_append, h.1]; rfl, fun i x hx => ?_⟩
  rcases snocg hx with ⟨_, y⟩ | ⟨y1, y2⟩
  · obtain ⟨k', h1, h2⟩ := h.2 i x y
    exact ⟨k', by rw [List.getElem?_append_left (lt_of_get h1)]; exact h1, h2⟩
  · subst y2
    exact ⟨k, by rw [List.getElem?_append_right (by rw [y1, h.1]; exact Nat.le_refl _), y1, h.1, Nat.sub_self]; rfl, e⟩
inductive Rk (nx : Kk → List Kk) (ks : List Kk) : Kk → Prop
  | start {k : Kk} : k ∈ ks → Rk nx ks k
  | step {k t : Kk} : Rk nx ks k → t ∈ nx k → Rk nx ks t
structure Xpl (nx : Kk → List Kk) (ks ns : List Kk) : Prop where
  nd : ns.Nodup
  mem : ∀ k, k ∈ ns ↔ Rk nx ks k
  pre : ks.Nodup → ∃ t, ns = ks ++ t
theorem idx_app {ns t : List Kk} {k : Kk} (h : k ∈ ns) : (ns ++ t).idxOf k = ns.idxOf k := by
  induction ns with
  | nil => cases h
  | cons x l ih =>
    rw [List.cons_append, List.idxOf_cons, List.idxOf_cons]
    by_cases e : (x == k) = true
    · rw [e]; rfl
    · have e' : (x == k) = false := by simpa using e
      rw [e']
      have hk : k ∈ l := by
        rcases List.mem_cons.mp h with z | z
        · exact absurd (by rw [z]; exact beq_self_eq_true x) e
        · exact z
      show (l ++ t).idxOf k + 1 = l.idxOf k + 1
      rw [ih hk]
theorem nd_sub : ∀ {l U : List Kk}, l.Nodup → (∀ x ∈ l, x ∈ U) → l.length ≤ U.length
  | [], _, _, _ => Nat.zero_le _
  | x :: l, U, nd, h => by
    rw [List.nodup_cons] at nd
    have hx := h x List.mem_cons_self
    have := nd_sub (l := l) (U := U.erase x) nd.2 fun y hy => (List.mem_erase_of_ne (fun z => nd.1 (by rw [← z]; exact hy))).mpr (h y (List.mem_cons_of_mem _ hy))
    rw [List.length_erase_of_mem hx] at this
    have := List.length_pos_of_mem hx
    rw [List.length_cons]
    omega
/-- what a step of the exploration does -/
def Stp (F : NdefX.NF) (ws : List (Option V)) (nx : Kk → List Kk) (D : Kk → Prop) (H : Hp) (sp : List (Option V) → Sp) : Prop := ∀ (H' : Hp) (a : Addr) (k : Kk) (Q : VK), Same H H' → D k → H' a = some (.tup (k.map V.int)) →
  (∀ (H2 : Hp) (l : Addr) (ts : List Addr), Same H' H2 → H' l = none → H2 l = some (.lst (ts.map V.ref)) → Tps H2 ts (nx k) → Q (.ref l) H2) → Clo.CloC sp ws [.ref a] F H' Q
def spExp (P : Program) (w : World) (K : PySem.W.Frag) (mg : Str → Option Value) (base : Heap) (lev : Nat) : Sp := fun vs H Q _ => ∃ (st f : Addr) (F : NdefX.NF) (ps fr : List Str) (ws : List (Option V)) (sp : List (Option V) → Sp) (k : Nat) (sa : List Addr) (ks : List Kk) (nx : Kk → List Kk) (U : List Kk),
  vs = [.ref st, .ref f] ∧ H f = some (NdefX.FnO f F) ∧ H F.c = some (LamX.CodeO F.c F.qual) ∧ Clo.Cel F fr ws H ∧ k ≤ lev ∧ NdefX.NOk P w K mg base CX0 k f F ps fr sp ∧ Stp F ws nx (· ∈ U) H sp ∧ H st = some (.lst (sa.map V.ref)) ∧ Tps H sa ks ∧ (∀ k ∈ ks, k ∈ U) ∧ (∀ k ∈ U, ∀ t ∈ nx k, t ∈ U) ∧ U.length ≤ 100000 ∧ ks.length ≤ 100000 ∧ (∀ k, (nx k).length ≤ 100000) ∧
  ∀ (H' : Hp) (p nl gl : Addr) (na : List Addr) (ns : List Kk), Same H H' → H' p = some (.tup [.ref nl, .ref gl]) → H' nl = some (.lst (na.map V.ref)) → Tps H' na ns → GrL H' gl (ns.map fun k => (nx k).map ns.idxOf) → Xpl nx ks ns → Q (.ref p) H'
/-- the rows so far -/
structure Xs (H0 : Hp) (d N : Addr) (na : List Addr) (ns : List Kk) (H' : Hp) : Prop where
  same : Same H0 H'
  ed : H' d = some (.dT (numT ns))
  en : H' N = some (.lst (na.map V.ref))
  tn : Tps H' na ns
  nd : ns.Nodup
theorem Xs.put {H0 H' : Hp} {d N a : Addr} {na : List Addr} {ns : List Kk} {k : Kk} (x : Xs H0 d N na ns H') (nd : H0 d = none) (nN : H0 N = none) (ea : H' a = some (.tup (k.map V.int))) (hk : k ∉ ns) :
    Xs H0 d N (na ++ [a]) (ns ++ [k]) (upd (upd H' d (.dT (numT (ns ++ [k])))) N (.lst (na.map V.ref ++ [V.ref a]))) := by
  have ndN : d ≠ N := fun z => by have := x.ed; rw [z, x.en] at this; cases this
  have nad : ∀ {b : Addr} {xs : List V}, H' b = some (.tup xs) → b ≠ d ∧ b ≠ N := fun e => ⟨fun z => by rw [z, x.ed] at e; (cases e), fun z => by rw [z, x.en] at e; (cases e)⟩
  have kt : ∀ b xs, H' b = some (.tup xs) → (upd (upd H' d (.dT (numT (ns ++ [k])))) N (.lst (na.map V.ref ++ [V.ref a]))) b = some (.tup xs) := fun b xs e => by rw [upd_ne (nad e).2, upd_ne (nad e).1]; exact e
  refine ⟨fun b o e => ?_, ?_, ?_, (x.tn.same kt).snoc (kt _ _ ea), ?_⟩
  · rw [upd_ne (ne_of_none e nN), upd_ne (ne_of_none e nd)]
    exact x.same _ _ e
  · rw [upd_ne ndN, upd_same]
  · rw [upd_same, List.map_append]; rfl
  · exact List.nodup_append.mpr ⟨x.nd, by simp, fun y hy z hz => by rw [List.mem_singleton.mp hz]; exact fun e => hk (e ▸ hy)⟩
theorem Xs.keep {H0 H' H'' : Hp} {d N : Addr} {na : List Addr} {ns : List Kk} (x : Xs H0 d N na ns H') (s : Same H' H'') : Xs H0 d N na ns H'' := ⟨x.same.trans s, s _ _ x.ed, s _ _ x.en, x.tn.same fun b xs e => s _ _ e, x.nd⟩
structure Rws (nx : Kk → List Kk) (ns : List Kk) (R N : Addr) (rs : List Addr) (H : Hp) : Prop where
  at_ : H R = some (.lst (rs.map V.ref))
  le : rs.length ≤ ns.length
  get : ∀ (j : Nat) (y : Addr), rs[j]? = some y → y ≠ R ∧ y ≠ N ∧ ∃ k, ns[j]? = some k ∧ (∀ t ∈ nx k, t ∈ ns) ∧ H y = some (.lst (((nx k).map ns.idxOf).map VN))
theorem Rws.keep {nx : Kk → List Kk} {ns : List Kk} {R N : Addr} {rs : List Addr} {H H' : Hp} (x : Rws nx ns R N rs H) (s : Same H H') : Rws nx ns R N rs H' := ⟨s _ _ x.at_, x.le, fun j y e => by
  obtain ⟨n1, n2, k, h1, h2, h3⟩ := x.get j y e
  exact ⟨n1, n2, k, h1, h2, s _ _ h3⟩⟩
theorem map_idx {l ns t : List Kk} (h : ∀ x ∈ l, x ∈ ns) : l.map (ns ++ t).idxOf = l.map ns.idxOf := List.map_congr_left fun x hx => idx_app (h x hx)
theorem Rws.grow {nx : Kk → List Kk} {ns : List Kk} {R N d : Addr} {rs : List Addr} {H : Hp} {k : Kk} {o1 : List (List L2.Key × V)} {l2 : List V} (x : Rws nx ns R N rs H) (ed : ∃ kv, H d = some (.dT kv)) (nRN : R ≠ N) : Rws nx (ns ++ [k]) R N rs (upd (upd H d (.dT o1)) N (.lst l2)) := by
  obtain ⟨kv, ed⟩ := ed
  have nd : ∀ {b : Addr} {xs : List V}, H b = some (.lst xs) → b ≠ d := fun e z => by rw [z, ed] at e; cases e
  refine ⟨by rw [upd_ne nRN, upd_ne (nd x.at_)]; exact x.at_, by rw [List.length_append]; have := x.le; omega, fun j y e => ?_⟩
  obtain ⟨n1, n2, k', h1, h2, h3⟩ := x.get j y e
  exact ⟨n1, n2, k', by rw [List.getElem?_append_left (lt_of_get h1)]; exact h1, fun t ht => List.mem_append_left _ (h2 t ht), by rw [upd_ne n2, upd_ne (nd h3), map_idx h2]; exact h3⟩
theorem cal_exp {lev : Nat} (hlev : 1 ≤ lev) (T : Txt K mg cA0 PA0 cA1 PA1) : C8.Cal P w K mg base (lev + 1) "explore" (spExp P w K mg base lev) [] := by
  obtain ⟨f, fd, F, hm, hb⟩ := T.h_explore
  refine ⟨f, fd, _, [], F.ok sc_explore (fun vs H Q E h => ?_) (fun cdv A outer s H vs Q E hr h => ?_), hm, F.kp, hb, .nil⟩
  · obtain ⟨st, f, F, ps, fr, ws, sp, k, sa, ks, nx, U, rfl, _⟩ := h
    rfl
  · obtain ⟨st, fa, FF, ps, fr, ws, sp, kl, sa, ks, nx, U, rfl, hf, hcd, hC, hkl, hN, hS, est, hT0, hkU, hUU, hUl, hkl2, hnl2, q⟩ := h
    refine ⟨_, (pss_cons
      (ps_set (i := 2) sc_explore.nd rfl (Or.inl rfl) pe_dnewT)
      (pss_cons
      (ps_set (i := 3) sc_explore.nd rfl (Or.inl rfl) (pe_lst pa_nil))
      (pss_cons
      (ps_for PassesOwn.never rfl (pi_list (pv 0)) (pg_name (i := 4) sc_explore.nd rfl (.inl rfl)) (pss_one
      (ps_if (pt_cmp (pc_dnotin (hu_of hr) (pv 4) (pv 2))) (pss_cons
      (ps_dput (hu_of hr) (pv 2) (pv 4) (pe_callB (call_lenK (K := K) rfl) (by rfl) T.z_len PySem.boot_len (pa_cons (pv 3) pa_nil)) rfl)
      (pss_one
      (ps_expr (pe_bm PySem.F.plainAttrs_list PySem.F.slot_list_append PySem.F.type_list_append mt_append (pv 3) (pa_cons (pv 4) pa_nil))))) pss_nil)))
      (pss_cons
      (ps_set (i := 5) sc_explore.nd rfl (Or.inl rfl) (pe_lst pa_nil))
      (C8.pss_cut
      (ps_while PassesOwn.never (pt_cmpR op_lt (pe_callB (call_lenK (K := K) rfl) (by rfl) T.z_len PySem.boot_len (pa_cons (pv 5) pa_nil)) (pe_callB (call_lenK (K := K) rfl) (by rfl) T.z_len PySem.boot_len (pa_cons (pv 3) pa_nil)) (nomark _)) (pss_cons
      (ps_set (i := 6) sc_explore.nd rfl (Or.inl rfl) (pe_lst pa_nil))
      (pss_cons
      (ps_for PassesOwn.never rfl (pi_list (Clo.pe_callQ (P := P) (w := w) (K := K) (mg := mg) (base := base) (i := 1) rfl rfl rfl rfl rfl hr rfl (by first | exact Or.inl rfl | exact Or.inr (Or.inl rfl) | exact Or.inr (Or.inr rfl)) (pa_cons (pe_ix (ix_listK (K := K) rfl) (pv 3) (pe_callB (call_lenK (K := K) rfl) (by rfl) T.z_len PySem.boot_len (pa_cons (pv 5) pa_nil)) (fun _ _ => rfl)) pa_nil))) (pg_name (i := 7) sc_explore.nd rfl (.inl rfl)) (C8.pss_cut
      (ps_if (pt_cmp (pc_dnotin (hu_of hr) (pv 7) (pv 2))) (pss_cons
      (ps_dput (hu_of hr) (pv 2) (pv 7) (pe_callB (call_lenK (K := K) rfl) (by rfl) T.z_len PySem.boot_len (pa_cons (pv 3) pa_nil)) rfl)
      (pss_one
      (ps_expr (pe_bm PySem.F.plainAttrs_list PySem.F.slot_list_append PySem.F.type_list_append mt_append (pv 3) (pa_cons (pv 7) pa_nil))))) pss_nil)
      (pss_one
      (ps_expr (pe_bm PySem.F.plainAttrs_list PySem.F.slot_list_append PySem.F.type_list_append mt_append (pv 6) (pa_cons (pe_dget (hu_of hr) (pv 2) (pv 7) (fun _ _ => rfl)) pa_nil))))))
      (pss_one
      (ps_expr (pe_bm PySem.F.plainAttrs_list PySem.F.slot_list_append PySem.F.type_list_append mt_append (pv 5) (pa_cons (pv 6) pa_nil)))))))
      (pss_one
      (ps_ret (pe_tup (pa_cons (pv 3) (pa_cons (pv 5) pa_nil)))))))))), ?_⟩
    refine fun d nd => ?_
    generalize hX : upd H d _ = H1; obtain ⟨sH1, ed⟩ := nw nd hX; clear hX
    refine ⟨Nat.zero_le _, fun N nN => ?_⟩
    have nN0 := sH1.free nN
    generalize hX : upd H1 N _ = H2; obtain ⟨sH2, eN⟩ := nw nN hX; clear hX
    have X0 : Xs H d N [] [] H2 := ⟨sH1.trans sH2, sH2 _ _ ed, eN, ⟨rfl, fun i a e => by (cases e)⟩, List.nodup_nil⟩
    have hsa := hT0.1
    -- the starts
    refine ⟨_, rfl, st, rfl, ⟨_, .of (X0.same _ _ est)⟩, for_list (K := K) (a := st) (xs := sa.map V.ref) (fun i σ H' => ∃ (v4 : Option V) (na : List Addr) (ns : List Kk), σ = [some (.ref st), some (.ref fa), some (.ref d), some (.ref N), v4, none, none, none] ∧ Xs H d N na ns H' ∧ (∀ k, k ∈ ns ↔ k ∈ ks.take i) ∧ (ks.Nodup → ns = ks.take i))
      ⟨none, [], [], rfl, X0, by simp, fun _ => rfl⟩ (fun i σ H' _ ⟨_, _, _, _, x, _⟩ => .of (x.same _ _ est)) ?_ ?_⟩
    · rintro i v σ H3 hi ⟨v4, na, ns, rfl, x, hm, hp⟩
      obtain ⟨a, ha, rfl⟩ := refsg hi
      obtain ⟨k, hk, eak⟩ := hT0.2 i a ha
      have ea := x.same _ _ eak
      have eaT : H3 a = some (.tup ((keyT k).map L2.kV)) := by rw [keyT_kV]; exact ea
      have hil := lt_of_get hk
      have hnl : ns.length ≤ 100000 := Nat.le_trans (nd_sub x.nd fun y hy => hkU y (List.mem_of_mem_take ((hm y).mp hy))) hUl
      have htk : ks.take (i + 1) = ks.take i ++ [k] := by rw [List.take_add_one, hk]; rfl
      refine ⟨_, rfl, _, rfl, d, _, rfl, DGet.t x.ed eaT, _, rfl, ?_⟩
      rw [numT_val]
      by_cases c : k ∈ ns
      · rw [if_pos c]
        refine iteB_f rfl ⟨_, na, ns, rfl, x, fun y => ?_, fun nd2 => ?_⟩
        · rw [htk, List.mem_append, List.mem_singleton, ← hm y]
          constructor
          · exact .inl
          · rintro (z | rfl)
            · exact z
            · exact c
        · exfalso
          have h1 := (hm k).mp c
          obtain ⟨j, hj⟩ := List.mem_iff_getElem?.mp h1
          rw [List.getElem?_take] at hj
          split at hj
          · rename_i hji
            have := nd_inj nd2 hj hk
            omega
          · cases hj
      · rw [if_neg c]
        refine iteB_t rfl ⟨_, rfl, N, _, rfl, .inl (.of x.en), _, rfl, _, rfl, d, _, rfl, DPut.t x.ed eaT (by rw [numT_len]; exact Nat.lt_of_le_of_lt hnl (by decide)), ?_⟩
        have xp := x.put (a := a) (k := k) nd nN0 ea c
        have hnn : (na.map V.ref).length = ns.length := by rw [List.length_map]; exact x.tn.1
        have ndN : N ≠ d := fun z => by have := x.ed; rw [← z, x.en] at this; cases this
        have hpt : putK (numT ns) (keyT k) (V.int ((na.map V.ref).length : Int)) = numT (ns ++ [k]) := by rw [hnn]; exact numT_put c
        rw [hpt]
        refine ⟨_, rfl, .inl ⟨rfl, _, .of (by rw [upd_ne ndN]; exact x.en)⟩, _, rfl, N, _, _, rfl, rfl, by rw [upd_ne ndN]; exact x.en, by rw [hnn]; exact Nat.lt_of_le_of_lt hnl (by decide), ?_⟩
        refine ⟨_, _, _, rfl, xp, fun y => ?_, fun nd2 => by rw [htk, hp nd2]⟩
        rw [htk, List.mem_append, List.mem_append, hm y]
    rintro σ H3 ⟨v4, na, ns, rfl, x3, hm3, hp3⟩
    rw [List.length_map, hsa, List.take_length] at hm3 hp3
    clear X0 sH1 sH2 ed eN nN
    refine ⟨Nat.zero_le _, fun R nR => ?_⟩
    have nR0 := x3.same.free nR
    have nRN : R ≠ N := fun z => by rw [z, x3.en] at nR; cases nR
    have nRd : R ≠ d := fun z => by rw [z, x3.ed] at nR; cases nR
    generalize hX : upd H3 R _ = H4; obtain ⟨sH4, eR⟩ := nw nR hX; clear hX
    have x4 := x3.keep sH4
    have hsn : ∀ {ns : List Kk}, ns.Nodup → (∀ k ∈ ns, k ∈ U) → ns.length ≤ 100000 := fun nd h => Nat.le_trans (nd_sub nd h) hUl
    have hRk : ∀ k ∈ ns, Rk nx ks k := fun k hk => .start ((hm3 k).mp hk)
    have hks : ∀ k ∈ ks, k ∈ ns := fun k hk => (hm3 k).mpr hk
    have hpre : ks.Nodup → ∃ t, ns = ks ++ t := fun nd => ⟨[], by rw [hp3 nd, List.append_nil]⟩
    have rkU : ∀ {k}, Rk nx ks k → k ∈ U := fun h => by
      induction h with
      | start h => exact hkU _ h
      | step _ h ih => exact hUU _ ih _ h
    have R4 : Rws nx ns R N [] H4 := ⟨eR, Nat.zero_le _, fun j y e => by (cases e)⟩
    refine ⟨fun σ H' => ∃ (v4 v6 v7 : Option V) (na : List Addr) (ns : List Kk) (rs : List Addr), σ = [some (.ref st), some (.ref fa), some (.ref d), some (.ref N), v4, some (.ref R), v6, v7] ∧ Xs H d N na ns H' ∧ Rws nx ns R N rs H' ∧ rs.length = ns.length ∧ Xpl nx ks ns, ?_, ?_⟩
    · refine ⟨fun m σ H' => ∃ (v4 v6 v7 : Option V) (na : List Addr) (ns : List Kk) (rs : List Addr), m = U.length - rs.length ∧ σ = [some (.ref st), some (.ref fa), some (.ref d), some (.ref N), v4, some (.ref R), v6, v7] ∧ Xs H d N na ns H' ∧ Rws nx ns R N rs H' ∧ (∀ k ∈ ns, Rk nx ks k) ∧ (∀ k ∈ ks, k ∈ ns) ∧ (ks.Nodup → ∃ t, ns = ks ++ t), ⟨_, v4, none, none, na, ns, [], rfl, rfl, x4, R4, hRk, hks, hpre⟩, ?_⟩
      clear x4 R4 hRk hks hpre hm3 hp3 x3 sH4 eR na ns
      rintro m σ H5 ⟨v4, v6, v7, na, ns, rs, rfl, rfl, x5, r5, hRk, hks, hpre⟩
      have hnl : ns.length ≤ U.length := nd_sub x5.nd fun k hk => rkU (hRk k hk)
      have hnn : (na.map V.ref).length = ns.length := by rw [List.length_map]; exact x5.tn.1
      refine ⟨_, rfl, R, _, rfl, .inl (.of r5.at_), _, rfl, N, _, rfl, .inl (.of x5.en), _, _, rfl, rfl, _, rfl, ?_⟩
      rw [List.length_map, hnn]
      by_cases c0 : rs.length < ns.length
      · rw [decide_eq_true (by omega)]
        refine iteB_t rfl ⟨_, fun σ' H'' z => z, ?_⟩
        refine ⟨Nat.zero_le _, fun wl nwl => ?_⟩
        have nwR : wl ≠ R := fun z => by rw [z, r5.at_] at nwl; cases nwl
        have nwN : wl ≠ N := fun z => by rw [z, x5.en] at nwl; cases nwl
        generalize hX : upd H5 wl _ = H6; obtain ⟨sH6, ewl⟩ := nw nwl hX; clear hX
        have x6 := x5.keep sH6
        have r6 := r5.keep sH6
        obtain ⟨a, ha⟩ : ∃ a, na[rs.length]? = some a := ⟨_, List.getElem?_eq_getElem (by rw [x5.tn.1]; exact c0)⟩
        obtain ⟨kc, hkc, eak⟩ := x6.tn.2 _ a ha
        have hkcU := rkU (hRk kc (List.mem_of_getElem? hkc))
        refine ⟨fa, FF, ps, fr, ws, sp, kl, rfl, x6.same _ _ hf, hkl, hN, ?_⟩
        refine ⟨_, rfl, _, rfl, R, _, rfl, .inl (.of r6.at_), N, _, _, .ref a, rfl, rfl, .of x6.en, by rw [List.length_map]; exact atN ha, x6.same _ _ hf, x6.same _ _ hcd, hC.ext x6.same, ?_⟩
        refine hS H6 a kc _ x6.same hkcU eak fun H7 l ts s7 nl el hT7 => ?_
        have x7 := x6.keep s7
        have r7 := r6.keep s7
        have ew7 := s7 _ _ ewl
        have nlN : l ≠ N := fun z => by rw [z, x6.en] at nl; cases nl
        have nlR : l ≠ R := fun z => by rw [z, r6.at_] at nl; cases nl
        have nlw : l ≠ wl := fun z => by rw [z, ewl] at nl; cases nl
        have nwl0 : H wl = none := x5.same.free nwl
        have nrw : ∀ (j : Nat) (y : Addr), rs[j]? = some y → y ≠ wl := fun j y e z => by
          obtain ⟨_, _, _, _, _, h⟩ := r5.get j y e
          rw [z, nwl] at h
          cases h
        have ndx : ∀ {H' : Hp} {b : Addr} {xs : List V} {na : List Addr} {ns : List Kk}, Xs H d N na ns H' → H' b = some (.lst xs) → b ≠ d := fun x e z => by rw [z, x.ed] at e; cases e
        refine ⟨l, rfl, ⟨_, .of el⟩, for_list (K := K) (a := l) (xs := ts.map V.ref) (fun i σ H' => ∃ (v7 : Option V) (na : List Addr) (ns : List Kk), σ = [some (.ref st), some (.ref fa), some (.ref d), some (.ref N), v4, some (.ref R), some (.ref wl), v7] ∧ Xs H d N na ns H' ∧ Rws nx ns R N rs H' ∧ (∀ k ∈ ns, Rk nx ks k) ∧ (∀ k ∈ ks, k ∈ ns) ∧ (ks.Nodup → ∃ t, ns = ks ++ t) ∧ ns[rs.length]? = some kc ∧ (∀ t ∈ (nx kc).take i, t ∈ ns) ∧ H' wl = some (.lst ((((nx kc).take i).map ns.idxOf).map VN)) ∧ H' l = some (.lst (ts.map V.ref)) ∧ Tps H' ts (nx kc))
          ⟨_, na, ns, rfl, x7, r7, hRk, hks, hpre, hkc, by simp, ew7, el, hT7⟩ (fun i σ H' _ ⟨_, _, _, _, _, _, _, _, _, _, _, _, z, _⟩ => .of z) ?_ ?_⟩
        · clear x7 r7 hRk hks hpre hkc ew7 el hT7 x6 r6 x5 r5 hnn hnl c0 ha
          rintro i v σ H8 hi ⟨v7, na, ns, rfl, x, r, hRk, hks, hpre, hkc, htk, ew, el, hT⟩
          obtain ⟨b, hb1, rfl⟩ := refsg hi
          obtain ⟨k, hk, eb⟩ := hT.2 i b hb1
          have ebT : H8 b = some (.tup ((keyT k).map L2.kV)) := by rw [keyT_kV]; exact eb
          have hnl : ns.length ≤ 100000 := Nat.le_trans (nd_sub x.nd fun k hk => rkU (hRk k hk)) hUl
          have hnn : (na.map V.ref).length = ns.length := by rw [List.length_map]; exact x.tn.1
          have hRkk : Rk nx ks k := .step (hRk kc (List.mem_of_getElem? hkc)) (List.mem_of_getElem? hk)
          have ndN : N ≠ d := fun z => by have := x.ed; rw [← z, x.en] at this; cases this
          have htk1 : (nx kc).take (i + 1) = (nx kc).take i ++ [k] := by rw [List.take_add_one, hk]; rfl
          have hil := lt_of_get hk
          refine ⟨fun σ H' => ∃ (na : List Addr) (ns : List Kk), σ = [some (.ref st), some (.ref fa), some (.ref d), some (.ref N), v4, some (.ref R), some (.ref wl), some (.ref b)] ∧ Xs H d N na ns H' ∧ Rws nx ns R N rs H' ∧ (∀ k ∈ ns, Rk nx ks k) ∧ (∀ k ∈ ks, k ∈ ns) ∧ (ks.Nodup → ∃ t, ns = ks ++ t) ∧ ns[rs.length]? = some kc ∧ (∀ t ∈ (nx kc).take i, t ∈ ns) ∧ k ∈ ns ∧ H' wl = some (.lst ((((nx kc).take i).map ns.idxOf).map VN)) ∧ H' l = some (.lst (ts.map V.ref)) ∧ Tps H' ts (nx kc), ?_, ?_⟩
          · refine ⟨_, rfl, _, rfl, d, _, rfl, DGet.t x.ed ebT, _, rfl, ?_⟩
            rw [numT_val]
            by_cases c : k ∈ ns
            · rw [if_pos c]
              exact iteB_f rfl ⟨na, ns, rfl, x, r, hRk, hks, hpre, hkc, htk, c, ew, el, hT⟩
            · rw [if_neg c]
              refine iteB_t rfl ⟨_, rfl, N, _, rfl, .inl (.of x.en), _, rfl, _, rfl, d, _, rfl, DPut.t x.ed ebT (by rw [numT_len]; exact Nat.lt_of_le_of_lt hnl (by decide)), ?_⟩
              have xp := x.put (a := b) (k := k) nd nN0 eb c
              have rp := r.grow (k := k) (o1 := numT (ns ++ [k])) (l2 := na.map V.ref ++ [V.ref b]) ⟨_, x.ed⟩ nRN
              have hpt : putK (numT ns) (keyT k) (V.int ((na.map V.ref).length : Int)) = numT (ns ++ [k]) := by rw [hnn]; exact numT_put c
              rw [hpt]
              refine ⟨_, rfl, .inl ⟨rfl, _, .of (by rw [upd_ne ndN]; exact x.en)⟩, _, rfl, N, _, _, rfl, rfl, by rw [upd_ne ndN]; exact x.en, by rw [hnn]; exact Nat.lt_of_le_of_lt hnl (by decide), ?_⟩
              refine ⟨_, _, rfl, xp, rp, fun y hy => ?_, fun y hy => List.mem_append_left _ (hks y hy), fun nd2 => ?_, by rw [List.getElem?_append_left (lt_of_get hkc)]; exact hkc, fun t ht => List.mem_append_left _ (htk t ht), by simp, ?_, ?_, hT.same fun q xs e => ?_⟩
              · rcases List.mem_append.mp hy with z | z
                · exact hRk y z
                · rw [List.mem_singleton.mp z]; exact hRkk
              · obtain ⟨t, e⟩ := hpre nd2
                exact ⟨t ++ [k], by rw [e, List.append_assoc]⟩
              · rw [upd_ne nwN, upd_ne (ndx x ew), map_idx htk]; exact ew
              · rw [upd_ne nlN, upd_ne (ndx x el)]; exact el
              · have n1 : q ≠ N := fun z => by rw [z, x.en] at e; cases e
                have n2 : q ≠ d := fun z => by rw [z, x.ed] at e; cases e
                rw [upd_ne n1, upd_ne n2]; exact e
          clear x r hRk hks hpre hkc htk ew el hT hnl hnn ebT eb
          rintro σ H9 ⟨na, ns, rfl, x, r, hRk, hks, hpre, hkc, htk, hkn, ew, el, hT⟩
          obtain ⟨k2, hk2, eb⟩ := hT.2 i b hb1
          rw [hk] at hk2
          obtain rfl := Option.some.inj hk2
          have ebT : H9 b = some (.tup ((keyT k).map L2.kV)) := by rw [keyT_kV]; exact eb
          have nR0' := r.at_
          refine ⟨_, rfl, .inl ⟨rfl, _, .of ew⟩, _, rfl, _, rfl, d, VN (ns.idxOf k), rfl, ?_, wl, _, _, rfl, rfl, ew, ?_, ?_⟩
          · have := DGet.t x.ed ebT
            rw [numT_val, if_pos hkn] at this
            exact this
          · rw [List.length_map, List.length_map, List.length_take]
            exact Nat.lt_of_le_of_lt (show min i (nx kc).length ≤ 100000 by have := hnl2 kc; omega) (by decide)
          have nwd := ndx x ew
          refine ⟨_, na, ns, rfl, ⟨fun q o e => ?_, by rw [upd_ne nwd.symm]; exact x.ed, by rw [upd_ne nwN.symm]; exact x.en, x.tn.same fun q xs e => ?_, x.nd⟩, ⟨by rw [upd_ne nwR.symm]; exact r.at_, r.le, fun j y e => ?_⟩, hRk, hks, hpre, hkc, ?_, ?_, by rw [upd_ne nlw]; exact el, hT.same fun q xs e => ?_⟩
          · rw [upd_ne (ne_of_none e nwl0)]; exact x.same _ _ e
          · rw [upd_ne (fun z => by rw [z, ew] at e; cases e)]; exact e
          · obtain ⟨n1, n2, k', h1, h2, h3⟩ := r.get j y e
            exact ⟨n1, n2, k', h1, h2, by rw [upd_ne (nrw j y e)]; exact h3⟩
          · intro t ht
            rw [htk1] at ht
            rcases List.mem_append.mp ht with z | z
            · exact htk t z
            · rw [List.mem_singleton.mp z]; exact hkn
          · rw [upd_same, htk1, List.map_append, List.map_append]; rfl
          · rw [upd_ne (fun z => by rw [z, ew] at e; cases e)]; exact e
        · clear x7 r7 hRk hks hpre hkc ew7 el hT7 x6 r6 x5 r5 hnn c0 ha
          rintro σ H8 ⟨v7, na, ns, rfl, x, r, hRk, hks, hpre, hkc, htk, ew, el, hT⟩
          rw [List.length_map, hT.1, List.take_length] at htk ew
          have hrl := lt_of_get hkc
          have hnl3 : ns.length ≤ U.length := nd_sub x.nd fun k hk => rkU (hRk k hk)
          refine ⟨_, rfl, .inl ⟨rfl, _, .of r.at_⟩, _, rfl, R, _, _, rfl, rfl, r.at_, by rw [List.length_map]; exact Nat.lt_of_le_of_lt (show rs.length ≤ 100000 by omega) (by decide), ?_⟩
          have nRd' : R ≠ d := ndx x r.at_
          refine ⟨U.length - (rs ++ [wl]).length, ?_, v4, _, _, na, ns, rs ++ [wl], rfl, rfl, ⟨fun q o e => ?_, by rw [upd_ne nRd'.symm]; exact x.ed, by rw [upd_ne nRN.symm]; exact x.en, x.tn.same fun q xs e => ?_, x.nd⟩, ⟨?_, ?_, fun j y e => ?_⟩, hRk, hks, hpre⟩
          · rw [List.length_append, List.length_singleton]; omega
          · rw [upd_ne (ne_of_none e nR0)]; exact x.same _ _ e
          · rw [upd_ne (fun z => by rw [z, r.at_] at e; cases e)]; exact e
          · rw [upd_same, List.map_append]; rfl
          · rw [List.length_append, List.length_singleton]; omega
          · rcases snocg e with ⟨_, z⟩ | ⟨z1, z2⟩
            · obtain ⟨n1, n2, k', h1, h2, h3⟩ := r.get j y z
              exact ⟨n1, n2, k', h1, h2, by rw [upd_ne n1]; exact h3⟩
            · rw [z1, z2]
              exact ⟨nwR, nwN, kc, hkc, htk, by rw [upd_ne nwR]; exact ew⟩
      · rw [decide_eq_false (by omega)]
        refine iteB_f rfl ⟨v4, v6, v7, na, ns, rs, rfl, x5, r5, by have := r5.le; omega, x5.nd, fun k => ⟨hRk k, fun h => ?_⟩, hpre⟩
        have hle : rs.length = ns.length := by have := r5.le; omega
        induction h with
        | start h => exact hks _ h
        | step _ h ih =>
          obtain ⟨j, hj⟩ := List.mem_iff_getElem?.mp ih
          have hjl := lt_of_get hj
          obtain ⟨_, _, k', h1, h2, _⟩ := r5.get j _ (List.getElem?_eq_getElem (show j < rs.length by omega))
          rw [hj] at h1
          cases h1
          exact h2 _ h
    · rintro σ H5 ⟨v4, v6, v7, na, ns, rs, rfl, x5, r5, hle, hX⟩
      refine ⟨_, rfl, _, rfl, by show 2 ≤ sizeLine; decide, fun p np => ?_⟩
      generalize hX : upd H5 p _ = H6; obtain ⟨sH6, ep⟩ := nw np hX; clear hX
      have x6 := x5.keep sH6
      have r6 := r5.keep sH6
      refine q H6 p N R na ns x6.same ep x6.en x6.tn ⟨rs, r6.at_, by rw [List.length_map]; exact hle, fun i a e => ?_⟩ hX
      obtain ⟨_, _, k, h1, _, h3⟩ := r6.get i a e
      rw [h3]
      unfold Gr.row
      rw [List.getD_eq_getElem?_getD, List.getElem?_map, h1]
      rfl
/-- two clauses: the outer walk over a list -/
theorem lc2_list {a : Addr} {xs : List V} {g g1 : TG} {tt tt1 : TT} {wi1 : TI} {te : TE} {vs vs1 : List Nat} {σ : L2.St} {H1 : Hp} {D : Addr} {Qd : Hp → Prop} (Pv : Nat → Hp → Prop) (h0 : Pv 0 (upd H1 D (.lst []))) (hl : ∀ i H, i ≤ xs.length → Pv i H → SqL K H a xs)
    (hs : ∀ i x H, xs[i]? = some x → Pv i H → g x (wipe σ vs) H fun σ2 H2 => wipe σ2 vs = wipe σ vs ∧ tt σ2 H2 fun b H3 => if b = true then wi1 σ2 H3 fun J1 H4 => ∃ W1 : Nat → Nat → Hp → Prop, (∃ m, W1 0 m H4) ∧ ∀ j k H, W1 j k H →
      (J1.stop j H ∧ Pv (i + 1) H) ∨ (J1.go j H ∧ ∃ Nx1 : Hp → Prop, (∀ H', Nx1 H' → ∃ k', k' < k ∧ W1 (j + 1) k' H') ∧ ∀ x H', J1.yld j H x H' → g1 x (wipe σ2 vs1) H' fun σ3 H5 => wipe σ3 vs1 = wipe σ2 vs1 ∧ tt1 σ3 H5 fun b H6 =>
        if b = true then te σ3 H6 fun y H7 => ∃ acc, H7 D = some (.lst acc) ∧ acc.length < sizeLine ∧ Nx1 (upd H7 D (.lst (acc ++ [y]))) else Nx1 H6) else Pv (i + 1) H3) (hd : ∀ H, Pv xs.length H → Qd H) :
    ∃ W : Nat → Nat → Hp → Prop, (∃ m, W 0 m (upd H1 D (.lst []))) ∧ ∀ i m H, W i m H →
      ((Itl K a).stop i H ∧ Qd H) ∨ ((Itl K a).go i H ∧ ∃ Nx : Hp → Prop, (∀ H', Nx H' → ∃ m', m' < m ∧ W (i + 1) m' H') ∧ ∀ x H', (Itl K a).yld i H x H' → g x (wipe σ vs) H' fun σ2 H2 => wipe σ2 vs = wipe σ vs ∧ tt σ2 H2 fun b H3 =>
        if b = true then wi1 σ2 H3 fun J1 H4 => ∃ W1 : Nat → Nat → Hp → Prop, (∃ m, W1 0 m H4) ∧ ∀ j k H, W1 j k H →
          (J1.stop j H ∧ Nx H) ∨ (J1.go j H ∧ ∃ Nx1 : Hp → Prop, (∀ H', Nx1 H' → ∃ k', k' < k ∧ W1 (j + 1) k' H') ∧ ∀ x H', J1.yld j H x H' → g1 x (wipe σ2 vs1) H' fun σ3 H5 => wipe σ3 vs1 = wipe σ2 vs1 ∧ tt1 σ3 H5 fun b H6 =>
            if b = true then te σ3 H6 fun y H7 => ∃ acc, H7 D = some (.lst acc) ∧ acc.length < sizeLine ∧ Nx1 (upd H7 D (.lst (acc ++ [y]))) else Nx1 H6) else Nx H3) := by
  refine ⟨fun i m H => m = xs.length - i ∧ i ≤ xs.length ∧ Pv i H, ⟨xs.length, by simp, Nat.zero_le _, h0⟩, ?_⟩
  rintro i m H ⟨rfl, hi, p⟩
  have q := hl i H hi p
  rcases Nat.lt_or_ge i xs.length with c | c
  · exact .inr ⟨⟨xs, xs[i], q, List.getElem?_eq_getElem c⟩, Pv (i + 1), fun H' p' => ⟨xs.length - (i + 1), by omega, rfl, c, p'⟩, fun x H' y => by rw [y.1]; exact hs i x H (y.2 xs q) p⟩
  · have e : i = xs.length := Nat.le_antisymm hi c
    rw [e] at p
    exact .inl ⟨⟨xs, q, c⟩, hd H p⟩
/-- .. the inner walk over a list -/
theorem lc2_inL {b : Addr} {ys : List V} {g1 : TG} {tt1 : TT} {te : TE} {vs1 : List Nat} {σ2 : L2.St} {H4 : Hp} {D : Addr} {Nx : Hp → Prop} (Pv : Nat → Hp → Prop) (h0 : Pv 0 H4) (hl : ∀ j H, j ≤ ys.length → Pv j H → SqL K H b ys)
    (hs : ∀ j x H, ys[j]? = some x → Pv j H → g1 x (wipe σ2 vs1) H fun σ3 H5 => wipe σ3 vs1 = wipe σ2 vs1 ∧ tt1 σ3 H5 fun c H6 => if c = true then te σ3 H6 fun y H7 => ∃ acc, H7 D = some (.lst acc) ∧ acc.length < sizeLine ∧ Pv (j + 1) (upd H7 D (.lst (acc ++ [y]))) else Pv (j + 1) H6)
    (hd : ∀ H, Pv ys.length H → Nx H) :
    ∃ W1 : Nat → Nat → Hp → Prop, (∃ m, W1 0 m H4) ∧ ∀ j k H, W1 j k H →
      ((Itl K b).stop j H ∧ Nx H) ∨ ((Itl K b).go j H ∧ ∃ Nx1 : Hp → Prop, (∀ H', Nx1 H' → ∃ k', k' < k ∧ W1 (j + 1) k' H') ∧ ∀ x H', (Itl K b).yld j H x H' → g1 x (wipe σ2 vs1) H' fun σ3 H5 => wipe σ3 vs1 = wipe σ2 vs1 ∧ tt1 σ3 H5 fun c H6 =>
        if c = true then te σ3 H6 fun y H7 => ∃ acc, H7 D = some (.lst acc) ∧ acc.length < sizeLine ∧ Nx1 (upd H7 D (.lst (acc ++ [y]))) else Nx1 H6) := by
  refine ⟨fun j m H => m = ys.length - j ∧ j ≤ ys.length ∧ Pv j H, ⟨ys.length, by simp, Nat.zero_le _, h0⟩, ?_⟩
  rintro j m H ⟨rfl, hj, p⟩
  have q := hl j H hj p
  rcases Nat.lt_or_ge j ys.length with c | c
  · exact .inr ⟨⟨ys, ys[j], q, List.getElem?_eq_getElem c⟩, Pv (j + 1), fun H' p' => ⟨ys.length - (j + 1), by omega, rfl, c, p'⟩, fun x H' y => by rw [y.1]; exact hs j x H (y.2 ys q) p⟩
  · have e : j = ys.length := Nat.le_antisymm hj c
    rw [e] at p
    exact .inl ⟨⟨ys, q, c⟩, hd H p⟩
/-- two clauses: the outer walk over a range -/
theorem lc2_range {n : Nat} {g g1 : TG} {tt tt1 : TT} {wi1 : TI} {te : TE} {vs vs1 : List Nat} {σ : L2.St} {H1 : Hp} {D : Addr} {Qd : Hp → Prop} (Pv : Nat → Hp → Prop) (h0 : Pv 0 (upd H1 D (.lst [])))
    (hs : ∀ i H, i < n → Pv i H → g (.int (i : Nat)) (wipe σ vs) H fun σ2 H2 => wipe σ2 vs = wipe σ vs ∧ tt σ2 H2 fun b H3 => if b = true then wi1 σ2 H3 fun J1 H4 => ∃ W1 : Nat → Nat → Hp → Prop, (∃ m, W1 0 m H4) ∧ ∀ j k H, W1 j k H →
      (J1.stop j H ∧ Pv (i + 1) H) ∨ (J1.go j H ∧ ∃ Nx1 : Hp → Prop, (∀ H', Nx1 H' → ∃ k', k' < k ∧ W1 (j + 1) k' H') ∧ ∀ x H', J1.yld j H x H' → g1 x (wipe σ2 vs1) H' fun σ3 H5 => wipe σ3 vs1 = wipe σ2 vs1 ∧ tt1 σ3 H5 fun b H6 =>
        if b = true then te σ3 H6 fun y H7 => ∃ acc, H7 D = some (.lst acc) ∧ acc.length < sizeLine ∧ Nx1 (upd H7 D (.lst (acc ++ [y]))) else Nx1 H6) else Pv (i + 1) H3) (hd : ∀ H, Pv n H → Qd H) :
    ∃ W : Nat → Nat → Hp → Prop, (∃ m, W 0 m (upd H1 D (.lst []))) ∧ ∀ i m H, W i m H →
      ((Itr 0 n).stop i H ∧ Qd H) ∨ ((Itr 0 n).go i H ∧ ∃ Nx : Hp → Prop, (∀ H', Nx H' → ∃ m', m' < m ∧ W (i + 1) m' H') ∧ ∀ x H', (Itr 0 n).yld i H x H' → g x (wipe σ vs) H' fun σ2 H2 => wipe σ2 vs = wipe σ vs ∧ tt σ2 H2 fun b H3 =>
        if b = true then wi1 σ2 H3 fun J1 H4 => ∃ W1 : Nat → Nat → Hp → Prop, (∃ m, W1 0 m H4) ∧ ∀ j k H, W1 j k H →
          (J1.stop j H ∧ Nx H) ∨ (J1.go j H ∧ ∃ Nx1 : Hp → Prop, (∀ H', Nx1 H' → ∃ k', k' < k ∧ W1 (j + 1) k' H') ∧ ∀ x H', J1.yld j H x H' → g1 x (wipe σ2 vs1) H' fun σ3 H5 => wipe σ3 vs1 = wipe σ2 vs1 ∧ tt1 σ3 H5 fun b H6 =>
            if b = true then te σ3 H6 fun y H7 => ∃ acc, H7 D = some (.lst acc) ∧ acc.length < sizeLine ∧ Nx1 (upd H7 D (.lst (acc ++ [y]))) else Nx1 H6) else Nx H3) := by
  refine ⟨fun i m H => m = n - i ∧ i ≤ n ∧ Pv i H, ⟨n, by simp, Nat.zero_le _, h0⟩, ?_⟩
  rintro i m H ⟨rfl, hi, p⟩
  rcases Nat.lt_or_ge i n with c | c
  · refine .inr ⟨c, Pv (i + 1), fun H' p' => ⟨n - (i + 1), by omega, rfl, c, p'⟩, fun x H' y => ?_⟩
    obtain ⟨e1, e2⟩ := y
    subst e1 e2
    rw [Int.zero_add]
    exact hs i _ c p
  · have e : i = n := Nat.le_antisymm hi c
    rw [e] at p
    exact .inl ⟨by first | exact Nat.not_lt.mpr c | exact e | exact c | exact Nat.le_of_eq e, hd H p⟩
/-- a function (state, letter) ↦ states that a variable holds -/
structure MvC (P : Program) (w : World) (K : PySem.W.Frag) (mg : Str → Option Value) (base : Heap) (lev : Nat) (f : Addr) (L : Int) (U : List Kk) (mv : Kk → Int → List Kk) (H : Hp) : Prop where
  ex : ∃ (F : NdefX.NF) (ps fr : List Str) (ws : List (Option V)) (sp : List (Option V) → Sp) (k : Nat), H f = some (NdefX.FnO f F) ∧ H F.c = some (LamX.CodeO F.c F.qual) ∧ Clo.Cel F fr ws H ∧ k ≤ lev ∧ NdefX.NOk P w K mg base CX0 k f F ps fr sp ∧
    ∀ (H' : Hp) (a : Addr) (u : Kk) (z : Int) (Q : VK), LamX.ExtN H H' → u ∈ U → 0 ≤ z → z < L → H' a = some (.tup (u.map V.int)) →
      (∀ (H2 : Hp) (l : Addr) (ts : List Addr), Same H' H2 → H' l = none → H2 l = some (.lst (ts.map V.ref)) → Tps H2 ts (mv u z) → Q (.ref l) H2) → Clo.CloC sp ws [.ref a, .int z] F H' Q
theorem ext_refl (H : Hp) : LamX.ExtN H H := fun b o e _ => e
theorem ext_trans {H H1 H2 : Hp} (a : LamX.ExtN H H1) (b : LamX.ExtN H1 H2) : LamX.ExtN H H2 := fun c o e n => b c o (a c o e n) n
theorem ext_of {H H' : Hp} (s : Same H H') : LamX.ExtN H H' := fun b o e _ => s b o e
theorem cel_ext {F : NdefX.NF} {fr : List Str} {ws : List (Option V)} {H H' : Hp} (C : Clo.Cel F fr ws H) (s : LamX.ExtN H H') : Clo.Cel F fr ws H' :=
  ⟨C.len, fun b hb => let ⟨v, o, e⟩ := C.all b hb; ⟨v, o, s _ _ e (by intro ps z; cases z)⟩, C.inj, fun i y e => let ⟨c, h1, h2⟩ := C.has i y e; ⟨c, h1, fun v ev => let ⟨o, e⟩ := h2 v ev; ⟨o, s _ _ e (by intro ps z; cases z)⟩⟩⟩
theorem MvC.ext {lev : Nat} {f : Addr} {L : Int} {U : List Kk} {mv : Kk → Int → List Kk} {H H' : Hp} (h : MvC P w K mg base lev f L U mv H) (s : LamX.ExtN H H') : MvC P w K mg base lev f L U mv H' := by
  obtain ⟨F, ps, fr, ws, sp, k, h1, h2, h3, h4, h5, h6⟩ := h.ex
  exact ⟨F, ps, fr, ws, sp, k, s _ _ h1 (by intro ps z; unfold NdefX.FnO at z; cases z), s _ _ h2 (by intro ps z; unfold LamX.CodeO at z; cases z), cel_ext h3 s, h4, h5, fun H2 a u z Q e => h6 H2 a u z Q (ext_trans s e)⟩
theorem MvC.mono {lev lev' : Nat} {f : Addr} {L : Int} {U : List Kk} {mv : Kk → Int → List Kk} {H : Hp} (h : MvC P w K mg base lev f L U mv H) (l : lev ≤ lev') : MvC P w K mg base lev' f L U mv H := by
  obtain ⟨F, ps, fr, ws, sp, k, h1, h2, h3, h4, h5⟩ := h.ex
  exact ⟨F, ps, fr, ws, sp, k, h1, h2, h3, Nat.le_trans h4 l, h5⟩
def nxB (mv : Kk → Int → List Kk) (L : Int) (u : Kk) : List Kk := (List.range L.toNat).flatMap fun z => mv u (z : Nat)
def spBst (P : Program) (w : World) (K : PySem.W.Frag) (mg : Str → Option Value) (base : Heap) (lev : Nat) (ws : List (Option V)) : Sp := fun vs H Q _ => ∃ (L : Int) (fm a : Addr) (u : Kk) (U : List Kk) (mv : Kk → Int → List Kk), ws = [some (.int L), some (.ref fm)] ∧ vs = [.ref a] ∧ MvC P w K mg base lev fm L U mv H ∧ 0 ≤ L ∧ L ≤ 100 ∧
  (∀ v z, (mv v z).length ≤ 1000) ∧ u ∈ U ∧ H a = some (.tup (u.map V.int)) ∧ ∀ (H2 : Hp) (l2 : Addr) (ts : List Addr), Same H H2 → H l2 = none → H2 l2 = some (.lst (ts.map V.ref)) → Tps H2 ts (nxB mv L u) → Q (.ref l2) H2
theorem flat_len {mv : Kk → Int → List Kk} {u : Kk} (h : ∀ v z, (mv v z).length ≤ 1000) : ∀ n : Nat, ((List.range n).flatMap fun z => mv u ((z : Nat) : Int)).length ≤ n * 1000
  | 0 => by simp
  | n + 1 => by
    rw [List.range_succ, List.flatMap_append, List.length_append]
    have := flat_len (u := u) h n
    have := h u (n : Nat)
    simp only [List.flatMap_cons, List.flatMap_nil, List.append_nil]
    omega
theorem ok_bst {lev : Nat} {f c' : Addr} {q : Str} {cells : List (Str × Addr)} (hlev : 1 ≤ lev) (T : Txt K mg cA0 PA0 cA1 PA1) :
    NdefX.NOk P w K mg base CX0 (lev + 1) f (NdefX.NF.of sn_built_automaton_step "step" q (cloFrom cells (C8.fnScope sn_built_automaton_step).names []) c') ["state"] ["letters", "moves"] (spBst P w K mg base lev) := by
  refine Clo.nokC_of (N := N_built_automaton_step) sc_built_automaton_step (fun y c h => Clo.clo_free sc_built_automaton_step h) (fun _ _ _ us hl => match us, hl with | [_], _ => rfl) (fun ws vs H Q E h => ?_) (fun A outer s H vs ws Q E hr hf hcd hwl h => ?_)
  · obtain ⟨L, fm, a, u, U, mv, _, rfl, _⟩ := h
    rfl
  · obtain ⟨L, fm, a, u, U, mv, rfl, rfl, hM, hL0, hL1, hml, hu, ha, q⟩ := h
    refine ⟨_, (pss_one
      (ps_ret (pe_lc2 (own := [("letter", 3), ("target", 4)]) (vs1 := [4]) (g := gName 3) (g1 := gName 4) (tt := tYes) (tt1 := tYes) rfl sc_built_automaton_step.nd (pi_range1 (by rfl) T.z_range (pa_cons (pv 1) pa_nil)) (blkOk_by (N := N_built_automaton_step) (sc := C8.fnScope sn_built_automaton_step) (by decide +kernel)) (by decide) (fun _ _ _ _ _ => (pg_name (i := 3) sc_built_automaton_step.nd rfl (Or.inl rfl))) (fun _ _ _ _ _ => pts_nil) (fun _ _ _ _ _ => (pi_listK (K := K) rfl (Clo.pe_callQ (P := P) (w := w) (K := K) (mg := mg) (base := base) (i := 2) rfl rfl rfl rfl rfl hr rfl (by first | exact Or.inl rfl | exact Or.inr (Or.inl rfl) | exact Or.inr (Or.inr rfl)) (pa_cons (pv 0) (pa_cons (pv 3) pa_nil))))) (fun _ _ _ _ _ => (pg_name (i := 4) sc_built_automaton_step.nd rfl (Or.inl rfl))) (fun _ _ _ _ _ => pts_nil) (fun _ _ _ _ _ => (pv 4))))), ?_⟩
    refine ⟨_, rfl, _, rfl, by omega, by omega, fun D nD => ?_⟩
    refine lc2_range (n := L.toNat) (fun i H' => ∃ ts : List Addr, Same H H' ∧ H' D = some (.lst (ts.map V.ref)) ∧ Tps H' ts ((List.range i).flatMap fun z => mv u (z : Nat)))
      ⟨[], same_new nD, upd_same, rfl, fun i a h => by (cases h)⟩ ?_ ?_
    · rintro i H1 hi ⟨ts, s1, eD, hT⟩
      have hM1 := hM.ext (ext_of s1)
      obtain ⟨F, ps, fr, wm, sp, k, f1, f2, f3, f4, f5, f6⟩ := hM1.ex
      refine ⟨rfl, fm, F, ps, fr, wm, sp, k, rfl, f1, f4, f5, ?_⟩
      refine ⟨_, rfl, _, rfl, f1, f2, f3, ?_⟩
      refine f6 H1 a u i _ (ext_refl _) hu (by omega) (by omega) (s1 _ _ ha) fun H2 l us s2 nl el hU => ?_
      have eD2 := s2 _ _ eD
      have hle : ((List.range i).flatMap fun z => mv u ((z : Nat) : Int)).length ≤ 100000 := Nat.le_trans (flat_len hml i) (by omega)
      have hTl := hT.1
      have nlD : l ≠ D := fun z => by rw [z, eD] at nl; cases nl
      refine ⟨l, rfl, ⟨_, .of el⟩, ?_⟩
      refine lc2_inL (K := K) (b := l) (ys := us.map V.ref) (fun j H' => ∃ ts : List Addr, Same H H' ∧ H' D = some (.lst (ts.map V.ref)) ∧ H' l = some (.lst (us.map V.ref)) ∧ Tps H' us (mv u (i : Nat)) ∧ Tps H' ts (((List.range i).flatMap fun z => mv u (z : Nat)) ++ (mv u (i : Nat)).take j))
        ⟨ts, s1.trans s2, eD2, el, hU, by rw [List.take_zero, List.append_nil]; exact hT.same fun b xs e => s2 _ _ e⟩ (fun j H' _ ⟨_, _, _, z, _⟩ => .of z) ?_ ?_
      · rintro j v H3 hj ⟨ts, s3, eD, el, hU, hT⟩
        obtain ⟨b, hb, rfl⟩ := refsg hj
        obtain ⟨x, hx, eb⟩ := hU.2 j b hb
        have nb : ∀ {c : Addr} {xs : List V}, H3 c = some (.tup xs) → c ≠ D := fun e z => by rw [z, eD] at e; cases e
        refine ⟨rfl, _, rfl, _, eD, ?_, ts ++ [b], fun c o hc => ?_, by rw [upd_same, List.map_append]; rfl, by rw [upd_ne nlD]; exact el, hU.same fun c xs e => by rw [upd_ne (nb e)]; exact e, ?_⟩
        · rw [List.length_map, hT.1, List.length_append, List.length_take]
          have := hml u (i : Nat)
          exact Nat.lt_of_le_of_lt (show _ ≤ 200000 by omega) (by decide)
        · rw [upd_ne (ne_of_none hc nD)]; exact s3 _ _ hc
        · rw [take_succ'' hx, ← List.append_assoc]
          exact (hT.same fun c xs e => by rw [upd_ne (nb e)]; exact e).snoc (by rw [upd_ne (nb eb)]; exact eb)
      · rintro H3 ⟨ts, s3, eD, el, hU, hT⟩
        refine ⟨ts, s3, eD, ?_⟩
        rw [List.length_map, hU.1, List.take_length] at hT
        rw [List.range_succ, List.flatMap_append]
        simpa using hT
    · rintro H1 ⟨ts, s1, eD, hT⟩
      exact q H1 D ts s1 nD eD hT
abbrev bScope : Scope := { kind := ScopeKind.function, names := [(".0", NameKind.local), ("letter", NameKind.local), ("sorted", NameKind.globalImplicit), ("set", NameKind.globalImplicit), ("moves", NameKind.cell), ("numbers", NameKind.cell), ("state", NameKind.cell)], isGenerator := false, isCoroutine := false }
/-- a function state ↦ bool that a variable holds -/
structure AcC (P : Program) (w : World) (K : PySem.W.Frag) (mg : Str → Option Value) (base : Heap) (lev : Nat) (f : Addr) (U : List Kk) (ac : Kk → Bool) (H : Hp) : Prop where
  ex : ∃ (F : NdefX.NF) (ps fr : List Str) (ws : List (Option V)) (sp : List (Option V) → Sp) (k : Nat), H f = some (NdefX.FnO f F) ∧ H F.c = some (LamX.CodeO F.c F.qual) ∧ Clo.Cel F fr ws H ∧ k ≤ lev ∧ NdefX.NOk P w K mg base CX0 k f F ps fr sp ∧
    ∀ (H' : Hp) (a : Addr) (u : Kk) (Q : VK), LamX.ExtN H H' → u ∈ U → H' a = some (.tup (u.map V.int)) → (∀ H2 : Hp, Same H' H2 → Q (.bl (ac u)) H2) → Clo.CloC sp ws [.ref a] F H' Q
theorem AcC.ext {lev : Nat} {f : Addr} {U : List Kk} {ac : Kk → Bool} {H H' : Hp} (h : AcC P w K mg base lev f U ac H) (s : LamX.ExtN H H') : AcC P w K mg base lev f U ac H' := by
  obtain ⟨F, ps, fr, ws, sp, k, h1, h2, h3, h4, h5, h6⟩ := h.ex
  exact ⟨F, ps, fr, ws, sp, k, s _ _ h1 (by intro ps z; unfold NdefX.FnO at z; cases z), s _ _ h2 (by intro ps z; unfold LamX.CodeO at z; cases z), cel_ext h3 s, h4, h5, fun H2 a u Q e => h6 H2 a u Q (ext_trans s e)⟩
/-- the automaton whose states are the nodes ns -/
structure BuR (mv : Kk → Int → List Kk) (ac : Kk → Bool) (L : Int) (ks ns : List Kk) (ini acc : List Int) (c : List (List (List Int))) : Prop where
  vld : VldB L ini acc c
  len : c.length = ns.length
  xpl : Xpl (nxB mv L) ks ns
  ini : ini = ks.map fun k => ((ns.idxOf k : Nat) : Int)
  acc : ∀ (i : Nat) (u : Kk), ns[i]? = some u → ((i : Int) ∈ acc ↔ ac u = true)
  row : ∀ (i : Nat) (u : Kk), ns[i]? = some u → ∀ z : Nat, (z : Int) < L → ∃ r e, c[i]? = some r ∧ r[z]? = some e ∧ ∀ t : Int, t ∈ e ↔ ∃ v ∈ mv u (z : Nat), t = ((ns.idxOf v : Nat) : Int)
def spBu (P : Program) (w : World) (K : PySem.W.Frag) (mg : Str → Option Value) (base : Heap) (lm : Nat) (C PA0 PA1 : Addr) : Sp := fun vs H Q _ => ∃ (L : Int) (st fm fa : Addr) (sa : List Addr) (ks U : List Kk) (mv : Kk → Int → List Kk) (ac : Kk → Bool), vs = [.int L, .ref st, .ref fm, .ref fa] ∧ 1 ≤ L ∧ L ≤ 100 ∧
  H st = some (.lst (sa.map V.ref)) ∧ Tps H sa ks ∧ ks.Nodup ∧ (∀ k ∈ ks, k ∈ U) ∧ (∀ u ∈ U, ∀ z : Int, 0 ≤ z → z < L → ∀ t ∈ mv u z, t ∈ U) ∧ U.length ≤ 1000 ∧ (∀ u z, (mv u z).length ≤ 60) ∧ MvC P w K mg base lm fm L U mv H ∧ AcC P w K mg base lm fa U ac H ∧ NdefX.TabsN (TbT PA0 PA1) H ∧
  (ks = [] → ∀ (H' : Hp) (x : Addr), LamX.ExtN H H' → NdefX.TabsN (TbT PA0 PA1) H' → AutAt C H' x L [] [] [List.replicate L.toNat []] → Q (.ref x) H') ∧
  (ks ≠ [] → ∀ (H' : Hp) (x : Addr) (ns : List Kk) (ini acc : List Int) (c : List (List (List Int))), LamX.ExtN H H' → NdefX.TabsN (TbT PA0 PA1) H' → BuR mv ac L ks ns ini acc c → AutAt C H' x L ini acc c → Q (.ref x) H')
theorem dcT_it {J : It} {n : Nat} {G : Hp → Prop} {Y : Nat → Hp → V → Hp → Prop} (w : Walk J n G Y) {g : TG} {tt : TT} {tk tv : TE} {vs : List Nat} {σ : L2.St} {H1 : Hp} {D : Addr} {Qd : Hp → Prop} (Pv : Nat → Hp → Prop) (h0 : Pv 0 (upd H1 D (.dT []))) (hG : ∀ i H, i ≤ n → Pv i H → G H)
    (hs : ∀ i x H H', i < n → Pv i H → Y i H x H' → g x (wipe σ vs) H' fun σ2 H2 => wipe σ2 vs = wipe σ vs ∧ tt σ2 H2 fun b H3 =>
      if b = true then tk σ2 H3 fun y H4 => tv σ2 H4 fun z H5 => ∃ H6, DPut H5 D y z H6 ∧ Pv (i + 1) H6 else Pv (i + 1) H3) (hd : ∀ H, Pv n H → Qd H) :
    ∃ W : Nat → Nat → Hp → Prop, (∃ m, W 0 m (upd H1 D (.dT []))) ∧ ∀ i m H, W i m H →
      (J.stop i H ∧ Qd H) ∨ (J.go i H ∧ ∃ Nx : Hp → Prop, (∀ H', Nx H' → ∃ m', m' < m ∧ W (i + 1) m' H') ∧ ∀ x H', J.yld i H x H' → g x (wipe σ vs) H' fun σ2 H2 => wipe σ2 vs = wipe σ vs ∧ tt σ2 H2 fun b H3 =>
        if b = true then tk σ2 H3 fun y H4 => tv σ2 H4 fun z H5 => ∃ H6, DPut H5 D y z H6 ∧ Nx H6 else Nx H3) := by
  refine ⟨fun i m H => m = n - i ∧ i ≤ n ∧ Pv i H, ⟨n, by simp, Nat.zero_le _, h0⟩, ?_⟩
  rintro i m H ⟨rfl, hi, p⟩
  have q := hG i H hi p
  rcases Nat.lt_or_ge i n with c | c
  · exact .inr ⟨w.goes i H c q, Pv (i + 1), fun H' p' => ⟨n - (i + 1), by omega, rfl, c, p'⟩, fun x H' y => hs i x H H' c p (w.yields i H x H' c q y)⟩
  · have e : i = n := Nat.le_antisymm hi c
    subst e
    exact .inl ⟨w.stops H q, hd H p⟩
theorem take_new {α : Type} {l : List α} {i : Nat} {x : α} (nd : l.Nodup) (h : l[i]? = some x) : x ∉ l.take i := fun hm => by
  obtain ⟨j, hj⟩ := List.mem_iff_getElem?.mp hm
  rw [List.getElem?_take] at hj
  split at hj
  · rename_i hji
    have := nd_inj nd hj h
    omega
  · cases hj
def EntB (mv : Kk → Int → List Kk) (ns : List Kk) (u : Kk) (z : Nat) (e : List Int) : Prop := e.Pairwise (· < ·) ∧ ∀ t : Int, t ∈ e ↔ ∃ v ∈ mv u (z : Nat), t = ((ns.idxOf v : Nat) : Int)
def RowB (mv : Kk → Int → List Kk) (ns : List Kk) (n : Nat) (u : Kk) (row : List (List Int)) : Prop := row.length = n ∧ ∀ (z : Nat) (e : List Int), row[z]? = some e → EntB mv ns u z e
/-- a row under way -/
def RwI (H : Hp) (E : Addr) (bs : List Addr) (row : List (List Int)) : Prop := H E = some (.lst (bs.map V.ref)) ∧ bs.length = row.length ∧ ∀ (j : Nat) (b : Addr), bs[j]? = some b → b ≠ E ∧ ∃ e, row[j]? = some e ∧ H b = some (.lst (e.map V.int))
theorem RwI.keep {H H' : Hp} {E : Addr} {bs : List Addr} {row : List (List Int)} (s : Same H H') (h : RwI H E bs row) : RwI H' E bs row := ⟨s _ _ h.1, h.2.1, fun j b e => by
  obtain ⟨n, x, h1, h2⟩ := h.2.2 j b e
  exact ⟨n, x, h1, s _ _ h2⟩⟩
theorem RwI.put {H : Hp} {E b : Addr} {bs : List Addr} {row : List (List Int)} {e : List Int} (h : RwI H E bs row) (eb : H b = some (.lst (e.map V.int))) (n : b ≠ E) : RwI (upd H E (.lst (bs.map V.ref ++ [V.ref b]))) E (bs ++ [b]) (row ++ [e]) := by
  refine ⟨by rw [upd_same, List.map_append]; rfl, by rw [List.length_append, List.length_append, h.2.1]; rfl, fun j c hc => ?_⟩
  rcases snocg hc with ⟨_, y⟩ | ⟨y1, y2⟩
  · obtain ⟨n1, x, h1, h2⟩ := h.2.2 j c y
    exact ⟨n1, x, by rw [List.getElem?_append_left (lt_of_get h1)]; exact h1, by rw [upd_ne n1]; exact h2⟩
  · subst y2
    exact ⟨n, e, by rw [y1, h.2.1, List.getElem?_append_right (Nat.le_refl _), Nat.sub_self]; rfl, by rw [upd_ne n]; exact eb⟩
/-- the rows under way -/
def RsI (H : Hp) (R : Addr) (as : List Addr) (c : List (List (List Int))) : Prop := H R = some (.lst (as.map V.ref)) ∧ as.length = c.length ∧ ∀ (i : Nat) (a : Addr), as[i]? = some a → a ≠ R ∧ ∃ bs row, c[i]? = some row ∧ RwI H a bs row ∧ ∀ b ∈ bs, b ≠ R
theorem RsI.keep {H H' : Hp} {R : Addr} {as : List Addr} {c : List (List (List Int))} (s : Same H H') (h : RsI H R as c) : RsI H' R as c := ⟨s _ _ h.1, h.2.1, fun i a e => by
  obtain ⟨n, bs, row, h1, h2, h3⟩ := h.2.2 i a e
  exact ⟨n, bs, row, h1, h2.keep s, h3⟩⟩
theorem RsI.put {H : Hp} {R a : Addr} {as bs : List Addr} {c : List (List (List Int))} {row : List (List Int)} (h : RsI H R as c) (ea : RwI H a bs row) (n : a ≠ R) (nb : ∀ b ∈ bs, b ≠ R) : RsI (upd H R (.lst (as.map V.ref ++ [V.ref a]))) R (as ++ [a]) (c ++ [row]) := by
  have mv : ∀ {a : Addr} {bs : List Addr} {row : List (List Int)}, RwI H a bs row → a ≠ R → (∀ b ∈ bs, b ≠ R) → RwI (upd H R (.lst (as.map V.ref ++ [V.ref a]))) a bs row := fun h n nb => ⟨by rw [upd_ne n]; exact h.1, h.2.1, fun j b e => by
    obtain ⟨n1, x, h1, h2⟩ := h.2.2 j b e
    exact ⟨n1, x, h1, by rw [upd_ne (nb b (List.mem_of_getElem? e))]; exact h2⟩⟩
  refine ⟨by rw [upd_same, List.map_append]; rfl, by rw [List.length_append, List.length_append, h.2.1]; rfl, fun i b hb => ?_⟩
  rcases snocg hb with ⟨_, y⟩ | ⟨y1, y2⟩
  · obtain ⟨n1, bs', row', h1, h2, h3⟩ := h.2.2 i b y
    refine ⟨n1, bs', row', by rw [List.getElem?_append_left (lt_of_get h1)]; exact h1, ⟨by rw [upd_ne n1]; exact h2.1, h2.2.1, fun j x e => ?_⟩, h3⟩
    obtain ⟨n2, z, h4, h5⟩ := h2.2.2 j x e
    exact ⟨n2, z, h4, by rw [upd_ne (h3 x (List.mem_of_getElem? e))]; exact h5⟩
  · subst y2
    refine ⟨n, bs, row, by rw [y1, h.2.1, List.getElem?_append_right (Nat.le_refl _), Nat.sub_self]; rfl, ⟨by rw [upd_ne n]; exact ea.1, ea.2.1, fun j x e => ?_⟩, nb⟩
    obtain ⟨n2, z, h4, h5⟩ := ea.2.2 j x e
    exact ⟨n2, z, h4, by rw [upd_ne (nb x (List.mem_of_getElem? e))]; exact h5⟩
theorem kidx_at : ∀ {ns : List Kk} {i : Nat} {u : Kk}, ns.Nodup → ns[i]? = some u → ns.idxOf u = i
  | [], i, u, _, h => by cases h
  | x :: l, 0, u, _, h => by
    have e : x = u := Option.some.inj h
    rw [e, List.idxOf_cons_self]
  | x :: l, i + 1, u, nd, h => by
    rw [List.nodup_cons] at nd
    have h' : l[i]? = some u := h
    have n : x ≠ u := fun e => nd.1 (by rw [e]; exact List.mem_of_getElem? h')
    rw [List.idxOf_cons, show (x == u) = false by simpa using n]
    show l.idxOf u + 1 = i + 1
    rw [kidx_at nd.2 h']
theorem ini_range {ks t : List Kk} (nd : (ks ++ t).Nodup) : (ks.map fun k => (((ks ++ t).idxOf k : Nat) : Int)) = (List.range ks.length).map fun j : Nat => (j : Int) := by
  apply List.ext_getElem?
  intro i
  rw [List.getElem?_map, List.getElem?_map]
  rcases Nat.lt_or_ge i ks.length with c | c
  · rw [List.getElem?_range c, List.getElem?_eq_getElem c]
    exact congrArg (fun j : Nat => some (j : Int)) (kidx_at nd (by rw [List.getElem?_append_left c]; exact List.getElem?_eq_getElem c))
  · rw [List.getElem?_eq_none c, List.getElem?_eq_none (by rw [List.length_range]; exact c)]; rfl
theorem asc_filter {p : Nat → Bool} {n m : Nat} (h : n ≤ m) : Asc (m : Int) (((List.range n).filter p).map fun j : Nat => (j : Int)) := by
  refine ⟨?_, fun x hx => ?_⟩
  · rw [List.pairwise_map]
    exact (List.pairwise_lt_range.filter _).imp fun h => by omega
  · obtain ⟨j, hj, rfl⟩ := List.mem_map.mp hx
    have := List.mem_range.mp (List.mem_filter.mp hj).1
    exact ⟨by omega, by omega⟩
theorem asc_range {n m : Nat} (h : n ≤ m) : Asc (m : Int) ((List.range n).map fun j : Nat => (j : Int)) := by
  have := asc_filter (p := fun _ => true) h
  rwa [List.filter_eq_self.mpr (by simp)] at this
theorem nxB_len {mv : Kk → Int → List Kk} {L : Int} (h : ∀ u z, (mv u z).length ≤ 60) (hL : L ≤ 100) (u : Kk) : (nxB mv L u).length ≤ 100000 := by
  have := flat_len (mv := mv) (u := u) (fun v z => Nat.le_trans (h v z) (by decide)) L.toNat
  unfold nxB
  omega
theorem nxB_cl {mv : Kk → Int → List Kk} {L : Int} {U : List Kk} (h : ∀ u ∈ U, ∀ z : Int, 0 ≤ z → z < L → ∀ t ∈ mv u z, t ∈ U) : ∀ u ∈ U, ∀ t ∈ nxB mv L u, t ∈ U := fun u hu t ht => by
  obtain ⟨z, hz, ht⟩ := List.mem_flatMap.mp ht
  have := List.mem_range.mp hz
  exact h u hu z (by omega) (by omega) t ht
theorem cal_bu {lm : Nat} {cI C fI : Addr} {fdI : FuncData} (hlm : 2 ≤ lm) (T : Txt K mg cA0 PA0 cA1 PA1) (TB0 : LamX.TabB base mg cA0 PA0) (eI : ErrC K mg "InvalidAutomaton" cI) (PC : AutC K C) (hM : Mk K C fI) (gC : mg "Automaton" = some (.ref C)) (F0 : L2.Fun K "__init__" "Automaton.__init__" s_Automaton_init fI fdI) (hB : Binds K fdI ["self", "letters", "initial", "accepting", "rows"] []) : C8.Cal P w K mg base (lm + 3) "built_automaton" (spBu P w K mg base lm C PA0 PA1) [] := by
  have MK : MakX P w K mg base 2 "Automaton" C (spInitS C cI) := ⟨fI, fdI, _, hM, ok_initS T eI PC F0, gC, hB⟩
  have C_empty_automaton : C8.Cal P w K mg base 4 "empty_automaton" (spEmp C) [] := cal_emp T eI PC hM gC F0 hB
  have C_explore : C8.Cal P w K mg base (lm + 1 + 1) "explore" (spExp P w K mg base (lm + 1)) [] := cal_exp (by omega) T
  obtain ⟨f, fd, F, hm, hb⟩ := T.h_built_automaton.ex
  refine ⟨f, fd, _, [], F.ok sc_built_automaton (fun vs H Q E h => ?_) (fun A outer s H vs Q E hr h => ?_), hm, F.kp, hb, .nil⟩
  · obtain ⟨L, st, fm, fa, sa, ks, U, mv, ac, rfl, _⟩ := h
    rfl
  · obtain ⟨L, st, fm, fa, sa, ks, U, mv, ac, rfl, hL1, hL2, hst, hT, hnd, hkU, hUU, hUl, hml, hMv, hAc, hTb, q0, q1⟩ := h
    refine ⟨_, (pss_cons
      (ps_if (pt_cmpR op_eq (pe_callB (call_lenK (K := K) rfl) (by rfl) T.z_len PySem.boot_len (pa_cons (pv 1) pa_nil)) pe_int (nomark _)) (pss_one
      (ps_ret (C8.pe_c C_empty_automaton hr (by omega) (by rfl) (pa_cons (pv 0) pa_nil)))) pss_nil)
      (pss_cons
      (Clo.ps_nd (T := TbT PA0 PA1) (i := 4) (sc := defScope s_built_automaton) TB0 (st := sn_built_automaton_step) rfl rfl TbT_mem0 rfl (TbT_u0 T.pn) rfl (by decide +kernel) rfl rfl rfl sc_built_automaton.nd rfl (.inl rfl) (by first | exact .inl rfl | exact .inr rfl))
      (pss_cons
      (ps_asg (Clo.pe_cAdd (fun ok => Clo.Own.made2 (scope := C8.fnScope sn_built_automaton_step) (sc := defScope s_built_automaton) rfl (fun _ => rfl) (by decide +kernel) ok) C_explore hr (by omega) (by rfl) (pa_cons (pv 1) (pa_cons (pv 4) pa_nil))) (pg_tup (by rfl) (pgs_cons (pg_name (i := 5) sc_built_automaton.nd rfl (.inl rfl)) (pgs_cons (pg_name (i := 6) sc_built_automaton.nd rfl (.inl rfl)) pgs_nil))))
      (pss_cons
      (ps_set (i := 7) sc_built_automaton.nd rfl (Or.inr rfl) (Bx.pe_dcT (own := [("at", 11), ("state", 9)]) (g := gTup K 2 (gCons (gName 11) (gCons (gName 9) gNil))) (tt := tYes) (hu_of hr) rfl sc_built_automaton.nd (pi_enum (by rfl) T.z_enumerate (pa_cons (pv 5) pa_nil)) (blkOk_by (N := N_built_automaton) (sc := defScope s_built_automaton) (by decide +kernel)) (fun _ _ _ _ _ => (pg_tup (by rfl) (pgs_cons (pg_name (i := 11) sc_built_automaton.nd rfl (Or.inl rfl)) (pgs_cons (pg_name (i := 9) sc_built_automaton.nd rfl (Or.inl rfl)) pgs_nil)))) (fun _ _ _ _ _ => pts_nil) (fun _ _ _ _ _ => (pv 9)) (fun _ _ _ _ _ => (pv 11))))
      (pss_cons
      (ps_set (i := 8) sc_built_automaton.nd rfl (Or.inl rfl) (pe_lst pa_nil))
      (pss_cons
      (ps_for PassesOwn.never rfl (pi_list (pv 5)) (pg_name (i := 9) sc_built_automaton.nd rfl (.inr rfl)) (pss_one
      (ps_expr (pe_bm PySem.F.plainAttrs_list PySem.F.slot_list_append PySem.F.type_list_append mt_append (pv 8) (pa_cons (pe_lc (own := [("letter", 12)]) (g := gName 12) (tt := tYes) rfl sc_built_automaton.nd (pi_range1 (by rfl) T.z_range (pa_cons (pv 0) pa_nil)) (blkOk_by (N := N_built_automaton) (sc := defScope s_built_automaton) (by decide +kernel)) (fun _ _ _ _ _ => (pg_name (i := 12) sc_built_automaton.nd rfl (by first | exact Or.inl rfl | exact Or.inr rfl))) (fun _ _ _ _ _ => pts_nil) (fun _ _ _ _ _ => (pe_callB (cr_sortedSet' (w := w) rfl rfl) (by rfl) T.z_sorted (by decide +kernel) (pa_cons (pe_callTy (cr_setLI (K := K) (w := w) rfl rfl rfl) (by rfl) T.z_set (by decide +kernel) (pa_cons (pe_lc (own := [("target", 13)]) (g := gName 13) (tt := tYes) rfl sc_built_automaton.nd (pi_listK (K := K) rfl (Clo.pe_callQ (P := P) (w := w) (K := K) (mg := mg) (base := base) (i := 2) rfl rfl rfl rfl rfl hr rfl (by first | exact Or.inl rfl | exact Or.inr (Or.inl rfl) | exact Or.inr (Or.inr rfl)) (pa_cons (pv 9) (pa_cons (pv 12) pa_nil)))) (blkOk_by (N := N_built_automaton) (sc := bScope) (by decide +kernel)) (fun _ _ _ _ _ => (pg_name (i := 13) sc_built_automaton.nd rfl (Or.inl rfl))) (fun _ _ _ _ _ => pts_nil) (fun _ _ _ _ _ => (pe_dget (hu_of hr) (pv 7) (pv 13) (fun _ _ => rfl)))) pa_nil)) pa_nil)))) pa_nil)))))
      (pss_cons
      (ps_setLc (i := 10) (own := [("state", 9)]) (g := gName 9) rfl sc_built_automaton.nd rfl rfl (sw_true rfl rfl rfl (by decide +kernel)) (pi_list (pv 5)) (blkOk_by (N := N_built_automaton) (sc := defScope s_built_automaton) (by decide +kernel)) (fun _ _ _ _ _ => (pg_name (i := 9) sc_built_automaton.nd rfl (Or.inl rfl))) (fun _ _ _ _ _ => (pts_one (pt_val (Clo.pe_callQ (P := P) (w := w) (K := K) (mg := mg) (base := base) (i := 3) rfl rfl rfl rfl rfl hr rfl (by first | exact Or.inl rfl | exact Or.inr (Or.inl rfl) | exact Or.inr (Or.inr rfl)) (pa_cons (pv 9) pa_nil))))) (fun _ _ _ _ _ => (pe_dget (hu_of hr) (pv 7) (pv 9) (fun _ _ => rfl))))
      (pss_one
      (ps_ret (pe_makeN MK hr (by omega) (by rfl) (pa_cons (pv 0) (pa_cons (pe_lc (own := [("state", 9)]) (g := gName 9) (tt := tYes) rfl sc_built_automaton.nd (pi_list (pv 1)) (blkOk_by (N := N_built_automaton) (sc := defScope s_built_automaton) (by decide +kernel)) (fun _ _ _ _ _ => (pg_name (i := 9) sc_built_automaton.nd rfl (Or.inl rfl))) (fun _ _ _ _ _ => pts_nil) (fun _ _ _ _ _ => (pe_dget (hu_of hr) (pv 7) (pv 9) (fun _ _ => rfl)))) (pa_cons (pv 10) (pa_cons (pv 8) pa_nil)))))))))))))), ?_⟩
    have hsa := hT.1
    have hkl : ks.length ≤ 1000 := Nat.le_trans (nd_sub hnd hkU) hUl
    refine ⟨_, rfl, st, _, rfl, .inl (.of hst), rfl, _, rfl, ite_eq (fun c => ?_) (fun c => ?_)⟩
    · rw [List.length_map, hsa] at c
      exact ⟨_, rfl, L, rfl, hL1, by omega, fun H1 y s1 hA => q0 (List.length_eq_zero_iff.mp (by omega)) H1 y (ext_of s1) (hTb.ext s1) hA⟩
    rw [List.length_map, hsa] at c
    have hne : ks ≠ [] := fun z => c (by rw [z]; rfl)
    refine ⟨hTb, fun f c' H4 x4 nn4 hTb4 f0 f4 c4 => ?_⟩
    have hst4 := x4 _ _ hst (by intro ps z; cases z)
    have hT4 := hT.same fun b xs e => x4 _ _ e (by intro ps z; cases z)
    have hMv4 := hMv.ext x4
    have hAc4 := hAc.ext x4
    have fre : ∀ {cells : List (Str × Addr)}, ∀ p ∈ cloFrom cells (C8.fnScope sn_built_automaton_step).names [], p.1 = "letters" ∨ p.1 = "moves" := fun {cells} p hp => by
      rcases cloFrom_mem (n := p.1) (c := p.2) hp with z | ⟨z, _⟩
      · cases z
      · have := sc_built_automaton_step.free _ z rfl
        simpa using this
    refine ⟨_, rfl, _, rfl, fun y => if y = "letters" then .int L else .ref fm, fun p hp => ?_, fun g os inj hg nA => ?_⟩
    · rcases fre p hp with e | e
      · exact ⟨0, by rw [e]; rfl, by rw [e]; rfl⟩
      · exact ⟨2, by rw [e]; rfl, by rw [e]; rfl⟩
    have keep4 := Clo.add_keep (g := g) (os := os) nA
    refine ⟨st, f, _, ["state"], ["letters", "moves"], _, spBst P w K mg base lm, lm + 1, sa, ks, nxB mv L, U, rfl, keep4 _ _ f4, keep4 _ _ c4, Clo.cel_of (gn := fun (y : Str) => if y = "letters" then V.int L else V.ref fm) rfl (fun y hy => ?_) (fun p hp => hp) inj hg, Nat.le_refl _, ok_bst (by omega) T, ?_, keep4 _ _ hst4, hT4.same fun b xs e => keep4 _ _ e, hkU, nxB_cl hUU, by omega, by omega, nxB_len hml hL2, ?_⟩
    · revert y; decide
    · intro H' a u Q' sm hu ha hq
      have hC' := (Clo.cel_of (F := NdefX.NF.of sn_built_automaton_step "step" ("built_automaton" ++ ".<locals>." ++ "step") (cloFrom _ (C8.fnScope sn_built_automaton_step).names []) c') (fr := ["letters", "moves"]) (gn := fun (y : Str) => if y = "letters" then V.int L else V.ref fm) (H := H4) rfl (by decide) (fun p hp => hp) inj hg).ext sm
      have k4 := Clo.add_same nA sm
      refine ⟨L, fm, a, u, U, mv, rfl, rfl, hMv4.ext (ext_of k4), by omega, hL2, fun v z => Nat.le_trans (hml v z) (by decide), hu, hC'.keep ha (by intro _ _ z; cases z), fun H7 l2 ts s7 nl el hT gone => ?_⟩
      refine hq _ l2 ts (hC'.back s7) ?_ (Clo.back_new gone el) (hT.same fun b xs e => Clo.back_new gone e)
      rwa [Clo.rem_out fun z => by rw [gone _ z] at el; cases el] at nl
    intro H6 pp nl gl na ns s6 epp enl hTn hG hX
    have frz := Clo.add_frz s6
    have s46 := Clo.add_same nA s6
    have rk : ∀ {b : Addr} {o : HO}, H6 b = some o → (∀ ob x, o ≠ .frz ob x) → Clo.remC _ H6 b = some o := fun h n => Clo.rem_keep frz h n
    have epp := rk epp (by intro _ _ z; cases z)
    have enl := rk enl (by intro _ _ z; cases z)
    have hTn := hTn.same fun b xs e => rk e (by intro _ _ z; cases z)
    generalize Clo.remC _ H6 = H7 at s46 epp enl hTn ⊢
    clear frz s6 rk keep4 f4 c4 hG
    have x07 : LamX.ExtN H H7 := ext_trans x4 (ext_of s46)
    have hTb7 := hTb4.ext s46
    have hMv7 := hMv4.ext (ext_of s46)
    have hAc7 := hAc4.ext (ext_of s46)
    have hst7 := s46 _ _ hst4
    have hT7 := hT4.same fun b xs e => s46 _ _ e
    clear s46 x4 nn4 hTb4 hMv4 hAc4 hst4 hT4 hTb hMv hAc hst hT nA hg inj os g f0
    have hrk : ∀ {u}, Rk (nxB mv L) ks u → u ∈ U := fun h => by
      induction h with
      | start h => exact hkU _ h
      | step _ h ih => exact nxB_cl hUU _ ih _ h
    have hnU : ∀ u ∈ ns, u ∈ U := fun u hu => hrk ((hX.mem u).mp hu)
    have hnl : ns.length ≤ 1000 := Nat.le_trans (nd_sub hX.nd hnU) hUl
    have hnal := hTn.1
    refine ⟨pp, _, rfl, .of epp, rfl, _, _, rfl, _, _, rfl, rfl, ?_⟩
    -- the numbers
    refine ⟨_, rfl, nl, _, rfl, .of enl, fun d nd => dcT_it (walk_enum (K := K) (a := nl) (xs := na.map V.ref)) (fun i H' => Same H7 H' ∧ H' d = some (.dT (numT (ns.take i))))
      ⟨same_new nd, upd_same⟩ (fun i H' _ ⟨z, _⟩ => .of (z _ _ enl)) ?_ ?_⟩
    · rintro i v H8 H9 hi ⟨s8, ed⟩ ⟨p, xi, y, rfl, np, rfl, hx, hy⟩
      obtain rfl := Option.some.inj hx
      obtain ⟨a, ha, rfl⟩ := refsg hy
      obtain ⟨u, hu, eu⟩ := hTn.2 i a ha
      generalize hX : upd H8 p _ = H9; obtain ⟨sH9, ep⟩ := nw np hX; clear hX
      have ed9 := sH9 _ _ ed
      have eu9 := sH9 _ _ (s8 _ _ eu)
      have hil := lt_of_get hu
      have hput := numT_put (take_new hX.nd hu)
      rw [List.length_take, Nat.min_eq_left (Nat.le_of_lt hil)] at hput
      refine ⟨p, _, rfl, .of ep, rfl, _, _, rfl, _, _, rfl, rfl, rfl, ?_⟩
      refine ⟨_, rfl, _, rfl, _, DPut.t (k := keyT u) ed9 (by rw [keyT_kV]; exact eu9) (by rw [numT_len, List.length_take]; exact Nat.lt_of_le_of_lt (show min i ns.length ≤ 1000 by omega) (by decide)), fun b o e => by rw [upd_ne (ne_of_none e nd)]; exact sH9 _ _ (s8 _ _ e), ?_⟩
      rw [upd_same, hput, take_succ'' hu]
    rintro H8 ⟨s8, ed⟩
    rw [List.length_map, hnal, List.take_length] at ed
    have hTn8 := hTn.same fun b xs e => s8 _ _ e
    have enl8 := s8 _ _ enl
    have x08 := ext_trans x07 (ext_of s8)
    have hTb8 := hTb7.ext s8
    have hMv8 := hMv7.ext (ext_of s8)
    have hAc8 := hAc7.ext (ext_of s8)
    have hst8 := s8 _ _ hst7
    have hT8 := hT7.same fun b xs e => s8 _ _ e
    clear s8 hTn enl x07 hTb7 hMv7 hAc7 hst7 hT7 epp
    have hget : ∀ {H' : Hp} {a : Addr} {u : Kk}, Same H8 H' → u ∈ ns → H' a = some (.tup (u.map V.int)) → DGet H' d (.ref a) (some (VN (ns.idxOf u))) := fun {H' a u} s hu ha => by
      have := DGet.t (k := keyT u) (s _ _ ed) (by rw [keyT_kV]; exact ha)
      rwa [numT_val, if_pos hu] at this
    refine ⟨Nat.zero_le _, fun R nR => ?_⟩
    generalize hX : upd H8 R _ = H9; obtain ⟨sH9, eR⟩ := nw nR hX; clear hX
    have enl9 := sH9 _ _ enl8
    refine ⟨_, rfl, nl, rfl, ⟨_, .of enl9⟩, for_list (K := K) (a := nl) (xs := na.map V.ref) (fun i σ H' => ∃ (v9 : Option V) (as : List Addr) (c : List (List (List Int))), σ = [some (.int L), some (.ref st), some (.ref fm), some (.ref fa), some (.ref f), some (.ref nl), some (.ref gl), some (.ref d), some (.ref R), v9, none, none, none, none] ∧ Same H8 H' ∧ RsI H' R as c ∧ c.length = i ∧ ∀ (j : Nat) (u : Kk) (row : List (List Int)), ns[j]? = some u → c[j]? = some row → RowB mv ns L.toNat u row)
      ⟨none, [], [], rfl, sH9, ⟨eR, rfl, fun i a h => by (cases h)⟩, rfl, fun j u row _ h => by (cases h)⟩ (fun i σ H' _ ⟨_, _, _, _, z, _⟩ => .of (z _ _ enl8)) ?_ ?_⟩
    · clear enl9 sH9 eR
      rintro i v σ H10 hi ⟨v9, as, c, rfl, s10, hR, hcl, hrows⟩
      obtain ⟨a, ha, rfl⟩ := refsg hi
      obtain ⟨u, hu, eu⟩ := hTn8.2 i a ha
      have hmem := List.mem_of_getElem? hu
      have huU := hnU u hmem
      have hil := lt_of_get hu
      refine ⟨_, rfl, .inl ⟨rfl, _, .of hR.1⟩, _, rfl, _, rfl, by omega, by omega, fun E nE => ?_⟩
      have nER : E ≠ R := fun z => by rw [z, hR.1] at nE; cases nE
      have nE8 := s10.free nE
      refine lc_range (lo := 0) (n := L.toNat) (fun z H' => ∃ (bs : List Addr) (row : List (List Int)), Same H10 H' ∧ RwI H' E bs row ∧ (∀ b ∈ bs, b ≠ R) ∧ row.length = z ∧ ∀ (z : Nat) (e : List Int), row[z]? = some e → EntB mv ns u z e)
        ⟨[], [], same_new nE, ⟨upd_same, rfl, fun j b h => by (cases h)⟩, by simp, rfl, fun z e h => by (cases h)⟩ ?_ ?_
      · rintro z H11 hz ⟨bs, row, s11, hW, hbR, hzl, hent⟩
        rw [Int.zero_add]
        have s811 := s10.trans s11
        obtain ⟨Fm, ps, fr, wm, sp, k, f1, f2, f3, f4, f5, f6⟩ := (hMv8.ext (ext_of s811)).ex
        refine ⟨rfl, fm, Fm, ps, fr, wm, sp, k, rfl, f1, by omega, f5, ?_⟩
        refine ⟨_, rfl, _, rfl, f1, f2, f3, ?_⟩
        refine f6 H11 a u z _ (ext_refl _) huU (by omega) (by omega) (s811 _ _ eu) fun H12 l ts s12 nl' el hT12 => ?_
        have hxs : ∀ x ∈ mv u (z : Nat), x ∈ ns := fun x hx => (hX.mem x).mpr (.step ((hX.mem u).mp hmem) (List.mem_flatMap.mpr ⟨z, List.mem_range.mpr hz, hx⟩))
        have hmz := hml u (z : Nat)
        have s812 := s811.trans s12
        refine ⟨l, rfl, ⟨_, .of el⟩, fun G nG => lc_list (K := K) (a := l) (xs := ts.map V.ref) (fun j H' => Same H12 H' ∧ H' G = some (.lst (((((mv u (z : Nat)).take j).map fun x => ((ns.idxOf x : Nat) : Int))).map V.int)))
          ⟨same_new nG, upd_same⟩ (fun j H' _ ⟨z, _⟩ => .of (z _ _ el)) ?_ ?_⟩
        · rintro j v H13 hj ⟨s13, eG⟩
          obtain ⟨b, hb, rfl⟩ := refsg hj
          obtain ⟨x, hx, ex⟩ := hT12.2 j b hb
          refine ⟨rfl, _, rfl, _, rfl, d, VN (ns.idxOf x), rfl, hget (s812.trans s13) (hxs x (List.mem_of_getElem? hx)) (s13 _ _ ex), _, eG, ?_, fun b o hb => ?_, ?_⟩
          · rw [List.length_map, List.length_map, List.length_take]
            exact Nat.lt_of_le_of_lt (show min j (mv u (z : Nat)).length ≤ 60 by omega) (by decide)
          · rw [upd_ne (ne_of_none hb nG)]
            exact s13 _ _ hb
          · rw [upd_same, take_succ'' hx, List.map_append, List.map_append]; rfl
        · rintro H13 ⟨s13, eG⟩
          rw [List.length_map, hT12.1, List.take_length] at eG
          have s1113 := s12.trans s13
          refine ⟨G, _, rfl, .of eG, by rw [List.length_map]; exact Nat.lt_of_le_of_lt (show _ ≤ 61 by omega) (by decide), fun p c np hc => ?_⟩
          rw [List.length_map] at hc
          refine ⟨p, _, c, rfl, upd_same, by omega, fun xs p2 hpw hmem2 hlen np2 => ?_⟩
          have nS := same_new (o := SetO w p (fun j => decide (j ∈ (mv u (z : Nat)).map fun x => ((ns.idxOf x : Nat) : Int))) c) np
          have nS2 := same_new (o := .lst (xs.map V.int)) np2
          have sA := s1113.trans (nS.trans nS2)
          have ep2 := upd_same (H := upd H13 p (SetO w p (fun j => decide (j ∈ (mv u (z : Nat)).map fun x => ((ns.idxOf x : Nat) : Int))) c)) (a := p2) (o := .lst (xs.map V.int))
          have fp2 : H11 p2 = none := (s1113.trans nS).free np2
          generalize upd (upd H13 p _) p2 _ = H14 at sA ep2 ⊢
          have hW14 := hW.keep sA
          have n2E : p2 ≠ E := fun z => by rw [z, hW.1] at fp2; cases fp2
          have n2R : p2 ≠ R := fun z => by rw [z, (hR.keep s11).1] at fp2; cases fp2
          refine ⟨_, hW14.1, by rw [List.length_map, hW.2.1, hzl]; exact Nat.lt_of_le_of_lt (show z ≤ 1000 by omega) (by decide), bs ++ [p2], row ++ [xs], fun b o hb => ?_, hW14.put ep2 n2E, fun b hb => ?_, by rw [List.length_append, hzl]; rfl, fun z' e h2 => ?_⟩
          · rw [upd_ne (ne_of_none hb nE)]
            exact sA _ _ (s11 _ _ hb)
          · rcases List.mem_append.mp hb with hb | hb
            · exact hbR b hb
            · rw [List.mem_singleton.mp hb]; exact n2R
          · rcases snocg h2 with ⟨_, y⟩ | ⟨y1, y2⟩
            · exact hent z' e y
            · rw [y1, y2, hzl]
              refine ⟨hpw, fun t => ?_⟩
              rw [hmem2 t, decide_eq_true_iff, List.mem_map]
              exact ⟨fun ⟨x, h1, h2⟩ => ⟨x, h1, h2.symm⟩, fun ⟨x, h1, h2⟩ => ⟨x, h1, h2.symm⟩⟩
      · rintro H11 ⟨bs, row, s11, hW, hbR, hzl, hent⟩
        have hR11 := hR.keep s11
        refine ⟨R, _, _, rfl, rfl, hR11.1, by rw [List.length_map, hR.2.1, hcl]; exact Nat.lt_of_le_of_lt (show i ≤ 1000 by omega) (by decide), ?_⟩
        refine ⟨_, as ++ [E], c ++ [row], rfl, fun b o hb => ?_, hR11.put hW nER hbR, by rw [List.length_append, hcl]; rfl, fun j u' row' h1 h2 => ?_⟩
        · rw [upd_ne (ne_of_none hb nR)]
          exact s11 _ _ (s10 _ _ hb)
        · rcases snocg h2 with ⟨_, y⟩ | ⟨y1, y2⟩
          · exact hrows j u' row' h1 y
          · rw [y1, hcl, hu] at h1
            obtain rfl := Option.some.inj h1
            rw [y2]
            exact ⟨hzl, hent⟩
    rintro σ H10 ⟨v9, as, c, rfl, s10, hR, hcl, hrows⟩
    rw [List.length_map, hnal] at hcl
    have enl10 := s10 _ _ enl8
    have hTn10 := hTn8.same fun b xs e => s10 _ _ e
    have x010 := ext_trans x08 (ext_of s10)
    have hTb10 := hTb8.ext s10
    have hAc10 := hAc8.ext (ext_of s10)
    have hst10 := s10 _ _ hst8
    have hT10 := hT8.same fun b xs e => s10 _ _ e
    have ed10 := s10 _ _ ed
    refine ⟨_, rfl, nl, rfl, ⟨_, .of enl10⟩, fun D nD => lc_list (K := K) (a := nl) (xs := na.map V.ref) (fun i H' => Same H10 H' ∧ H' D = some (.lst ((((List.range i).filter fun j => ac (ns.getD j [])).map fun j : Nat => (j : Int)).map V.int)))
      ⟨same_new nD, upd_same⟩ (fun i H' _ ⟨z, _⟩ => .of (z _ _ enl10)) ?_ ?_⟩
    · rintro i v H11 hi ⟨s11, eD⟩
      obtain ⟨a, ha, rfl⟩ := refsg hi
      obtain ⟨u, hu, eu⟩ := hTn10.2 i a ha
      have hmem := List.mem_of_getElem? hu
      have hil := lt_of_get hu
      obtain ⟨Fa, ps, fr, wa, sp, k, f1, f2, f3, f4, f5, f6⟩ := (hAc10.ext (ext_of s11)).ex
      refine ⟨rfl, fa, Fa, ps, fr, wa, sp, k, rfl, f1, by omega, f5, ?_⟩
      refine ⟨_, rfl, f1, f2, f3, ?_⟩
      refine f6 H11 a u _ (ext_refl _) (hnU u hmem) (s11 _ _ eu) fun H12 s12 => ⟨ac u, rfl, ?_⟩
      have s112 := s11.trans s12
      have hgu : ns.getD i [] = u := by rw [List.getD_eq_getElem?_getD, hu]; rfl
      have eD12 := s12 _ _ eD
      cases hac : ac u with
      | false =>
        refine iteB_f rfl ⟨s112, ?_⟩
        rw [eD12, List.range_succ, List.filter_append, List.filter_cons, hgu, hac, if_neg Bool.false_ne_true, List.filter_nil, List.append_nil]
      | true =>
        refine iteB_t rfl ⟨_, rfl, _, rfl, d, VN (ns.idxOf u), rfl, hget (s10.trans s112) hmem (s112 _ _ eu), _, eD12, ?_, fun b o hb => ?_, ?_⟩
        · rw [List.length_map, List.length_map]
          exact Nat.lt_of_le_of_lt (Nat.le_trans (List.length_filter_le _ _) (by rw [List.length_range]; exact (show i ≤ 1000 by omega))) (by decide)
        · rw [upd_ne (ne_of_none hb nD)]
          exact s112 _ _ hb
        · rw [upd_same, List.range_succ, List.filter_append, kidx_at hX.nd hu, List.filter_cons, hgu, hac, if_pos rfl, List.filter_nil, List.map_append, List.map_append]; rfl
    rintro H11 ⟨s11, eD⟩
    rw [List.length_map, hnal] at eD
    have hst11 := s11 _ _ hst10
    have hT11 := hT10.same fun b xs e => s11 _ _ e
    have hksn : ∀ k ∈ ks, k ∈ ns := fun k hk => (hX.mem k).mpr (.start hk)
    refine ⟨_, rfl, _, rfl, st, rfl, ⟨_, .of hst11⟩, fun I nI => lc_list (K := K) (a := st) (xs := sa.map V.ref) (fun i H' => Same H11 H' ∧ H' I = some (.lst (((ks.take i).map fun k => ((ns.idxOf k : Nat) : Int)).map V.int)))
      ⟨same_new nI, upd_same⟩ (fun i H' _ ⟨z, _⟩ => .of (z _ _ hst11)) ?_ ?_⟩
    · rintro i v H12 hi ⟨s12, eI⟩
      obtain ⟨a, ha, rfl⟩ := refsg hi
      obtain ⟨u, hu, eu⟩ := hT11.2 i a ha
      have hmem := List.mem_of_getElem? hu
      have hil := lt_of_get hu
      refine ⟨rfl, _, rfl, _, rfl, d, VN (ns.idxOf u), rfl, hget ((s10.trans s11).trans s12) (hksn u hmem) (s12 _ _ eu), _, eI, ?_, fun b o hb => ?_, ?_⟩
      · rw [List.length_map, List.length_map, List.length_take]
        exact Nat.lt_of_le_of_lt (show min i ks.length ≤ 1000 by omega) (by decide)
      · rw [upd_ne (ne_of_none hb nI)]
        exact s12 _ _ hb
      · rw [upd_same, take_succ'' hu, List.map_append, List.map_append]; rfl
    rintro H12 ⟨s12, eI⟩
    rw [List.length_map, hsa, List.take_length] at eI
    have hR12 := (hR.keep s11).keep s12
    have eD12 := s12 _ _ eD
    have x012 := (ext_trans x010 (ext_of (s11.trans s12)))
    have hTb12 := (hTb10.ext s11).ext s12
    obtain ⟨t, hpre⟩ := hX.pre hnd
    have hini := ini_range (ks := ks) (t := t) (by rw [← hpre]; exact hX.nd)
    rw [← hpre] at hini
    have hkn : ks.length ≤ ns.length := by rw [hpre, List.length_append]; omega
    have hkpos : 0 < ks.length := List.length_pos_iff.mpr hne
    have hbr : ∀ (i : Nat) (u : Kk), ns[i]? = some u → ∃ row, c[i]? = some row ∧ RowB mv ns L.toNat u row := fun i u hu => by
      have : i < c.length := by rw [hcl]; exact lt_of_get hu
      exact ⟨c[i], List.getElem?_eq_getElem this, hrows i u _ hu (List.getElem?_eq_getElem this)⟩
    have hrc : ∀ r ∈ c, r.length = L.toNat ∧ ∀ e ∈ r, Asc c.length e := fun r hr => by
      obtain ⟨i, hi⟩ := List.mem_iff_getElem?.mp hr
      have hil : i < ns.length := by rw [← hcl]; exact lt_of_get hi
      have hB := hrows i ns[i] r (List.getElem?_eq_getElem hil) hi
      refine ⟨hB.1, fun e he => ?_⟩
      obtain ⟨z, hz⟩ := List.mem_iff_getElem?.mp he
      have hE := hB.2 z e hz
      refine ⟨hE.1, fun x hx => ?_⟩
      obtain ⟨v, hv, rfl⟩ := (hE.2 x).mp hx
      have hzl : z < L.toNat := by rw [← hB.1]; exact lt_of_get hz
      have hvn : v ∈ ns := (hX.mem v).mpr (.step ((hX.mem _).mp (List.getElem_mem hil)) (List.mem_flatMap.mpr ⟨z, List.mem_range.mpr hzl, hv⟩))
      have := List.idxOf_lt_length_iff.mpr hvn
      rw [hcl]
      exact ⟨by omega, by omega⟩
    have hV : VldB L (ks.map fun k => ((ns.idxOf k : Nat) : Int)) (((List.range ns.length).filter fun j => ac (ns.getD j [])).map fun j : Nat => (j : Int)) c := by
      refine ⟨hL1, fun z => ?_, ?_, ?_, fun r hr => ⟨by have := (hrc r hr).1; omega, (hrc r hr).2⟩⟩
      · rw [z] at hcl
        have : ([] : List (List (List Int))).length = 0 := rfl
        omega
      · rw [hini, hcl]; exact asc_range hkn
      · rw [hcl]; exact asc_filter (Nat.le_refl _)
    have hBu : BuR mv ac L ks ns (ks.map fun k => ((ns.idxOf k : Nat) : Int)) (((List.range ns.length).filter fun j => ac (ns.getD j [])).map fun j : Nat => (j : Int)) c := by
      refine ⟨hV, hcl, hX, rfl, fun i u hu => ?_, fun i u hu z hz => ?_⟩
      · have hil := lt_of_get hu
        have hgu : ns.getD i [] = u := by rw [List.getD_eq_getElem?_getD, hu]; rfl
        rw [List.mem_map]
        constructor
        · rintro ⟨j, hj, e⟩
          have e : j = i := by omega
          subst e
          have := (List.mem_filter.mp hj).2
          rwa [hgu] at this
        · intro h
          exact ⟨i, List.mem_filter.mpr ⟨List.mem_range.mpr hil, by rw [hgu]; exact h⟩, rfl⟩
      · obtain ⟨row, h1, h2⟩ := hbr i u hu
        have hzl : z < row.length := by rw [h2.1]; omega
        exact ⟨row, row[z], h1, List.getElem?_eq_getElem hzl, (h2.2 z _ (List.getElem?_eq_getElem hzl)).2⟩
    refine ⟨_, rfl, _, rfl, ?_⟩
    refine fun x dx hx hdx hne' => ?_
    have s13 := same_fresh (C := C) hx hdx
    refine ⟨x, I, D, R, dx, L, _, _, as, c, rfl, upd_same, .inl (s13 _ _ eI), .inl (s13 _ _ eD12), ⟨s13 _ _ hR12.1, hR12.2.1, fun i a ha => ?_⟩, by omega, fun r hr => by have := (hrc r hr).1; omega, fun z => absurd hV z, fun _ H13 k13 A13 => ⟨rfl, ?_⟩⟩
    · obtain ⟨_, bs, row, h1, h2, _⟩ := hR12.2.2 i a ha
      refine ⟨bs, row, h1, s13 _ _ h2.1, h2.2.1, fun j b hb => ?_⟩
      obtain ⟨_, e, h4, h5⟩ := h2.2.2 j b hb
      exact ⟨e, h4, .inl (s13 _ _ h5)⟩
    · have s14 := same_made hx hdx k13
      exact q1 hne H13 x ns _ _ c (ext_trans x012 (ext_of s14)) (hTb12.ext s14) hBu A13
/-! runs of a Buchi automaton with rows -/
/-- state t is a successor of s for the letter a -/
def tr (rows : List (List (List Int))) (s : Nat) (a : Int) (t : Nat) : Prop := ∃ r e, rows[s]? = some r ∧ r[a.toNat]? = some e ∧ (t : Int) ∈ e
/-- some run on the word w is in accepting states again and again -/
def Run (rows : List (List (List Int))) (ini acc : List Int) (w : Nat → Int) : Prop := ∃ π : Nat → Nat, ((π 0 : Nat) : Int) ∈ ini ∧ (∀ i, tr rows (π i) (w i) (π (i + 1))) ∧ ∀ i, ∃ j, i < j ∧ ((π j : Nat) : Int) ∈ acc
theorem run_congr {rows : List (List (List Int))} {ini acc : List Int} {w w' : Nat → Int} (h : ∀ i, w i = w' i) : Run rows ini acc w ↔ Run rows ini acc w' := by
  have : w = w' := funext h
  rw [this]
/-- the place in h ++ l at turn i -/
def plc (h l : List Int) (i : Nat) : Nat := if i < h.length then i else h.length + (i - h.length) % l.length
theorem plc_lt {h l : List Int} (hl : l ≠ []) (i : Nat) : plc h l i < h.length + l.length := by
  have := List.length_pos_iff.mpr hl
  unfold plc
  split
  · omega
  · have := Nat.mod_lt (i - h.length) this
    omega
theorem plc_zero {h l : List Int} : plc h l 0 = 0 := by
  unfold plc
  split
  · rfl
  · rename_i k
    have : h.length = 0 := by omega
    rw [this, Nat.zero_sub, Nat.zero_mod]
theorem mod_step (m L : Nat) (hL : 0 < L) : (m + 1) % L = if m % L + 1 = L then 0 else m % L + 1 := by
  have h1 := Nat.mod_lt m hL
  rw [← Nat.mod_add_mod]
  split
  · rename_i e
    rw [e, Nat.mod_self]
  · exact Nat.mod_eq_of_lt (by omega)
theorem plc_lo {h l : List Int} {i : Nat} (c : i < h.length) : plc h l i = i := by unfold plc; rw [if_pos c]
theorem plc_hi {h l : List Int} {i : Nat} (c : h.length ≤ i) : plc h l i = h.length + (i - h.length) % l.length := by unfold plc; rw [if_neg (by omega)]
theorem plc_succ {h l : List Int} (hl : l ≠ []) (i : Nat) : plc h l (i + 1) = if plc h l i + 1 = h.length + l.length then h.length else plc h l i + 1 := by
  have hp := List.length_pos_iff.mpr hl
  rcases Nat.lt_or_ge i h.length with c | c
  · rw [plc_lo c, if_neg (show ¬ i + 1 = h.length + l.length by omega)]
    rcases Nat.lt_or_ge (i + 1) h.length with d | d
    · rw [plc_lo d]
    · rw [plc_hi d, show i + 1 - h.length = 0 by omega, Nat.zero_mod]
      omega
  · rw [plc_hi c, plc_hi (Nat.le_succ_of_le c), show i + 1 - h.length = (i - h.length) + 1 by omega, mod_step _ _ hp]
    generalize (i - h.length) % l.length = r
    by_cases e : r + 1 = l.length
    · rw [if_pos e, if_pos (show h.length + r + 1 = h.length + l.length by omega)]
      rfl
    · rw [if_neg e, if_neg (show ¬ h.length + r + 1 = h.length + l.length by omega)]
      rfl
theorem plc_at {h l : List Int} (hl : l ≠ []) (i : Nat) : (h ++ l).getD (plc h l i) 0 = wat h l i := by
  have hp := List.length_pos_iff.mpr hl
  unfold plc wat
  rcases Nat.lt_or_ge i h.length with c | c
  · rw [if_pos c, if_pos c, List.getD_eq_getElem?_getD, List.getElem?_append_left c, ← List.getD_eq_getElem?_getD]
  · rw [if_neg (by omega), if_neg (by omega), List.getD_eq_getElem?_getD, List.getElem?_append_right (by omega), Nat.add_sub_cancel_left, ← List.getD_eq_getElem?_getD]
theorem wat_mem {h l : List Int} (hl : l ≠ []) (i : Nat) : wat h l i ∈ h ++ l := by
  rw [← plc_at hl i, List.getD_eq_getElem?_getD, List.getElem?_eq_getElem (by rw [List.length_append]; exact plc_lt hl i)]
  exact List.getElem_mem _
section
variable {rows : List (List (List Int))} {ini acc h l : List Int} {wd : Int}
/-- what the rows and the word must be -/
structure Bd (rows : List (List (List Int))) (ini h l : List Int) (wd : Int) : Prop where
  ini : ∀ s ∈ ini, 0 ≤ s ∧ s < (rows.length : Int)
  let_ : ∀ z ∈ h ++ l, 0 ≤ z ∧ z < wd
  row : ∀ r ∈ rows, (r.length : Int) = wd ∧ ∀ ts ∈ r, ∀ t ∈ ts, 0 ≤ t ∧ t < (rows.length : Int)
theorem tr_lt {h l : List Int} {s t : Nat} {a : Int} (b : Bd rows ini h l wd) (k : tr rows s a t) : s < rows.length ∧ t < rows.length := by
  obtain ⟨r, e, h1, h2, h3⟩ := k
  have := ((b.row r (List.mem_of_getElem? h1)).2 e (List.mem_of_getElem? h2) _ h3).2
  exact ⟨lt_of_get h1, by omega⟩
theorem ent_iff (b : Bd rows ini h l wd) (hl : l ≠ []) {k t : Nat} (hk : k < rows.length * (h.length + l.length)) : (t : Int) ∈ ent rows h l k ↔ tr rows (k / (h.length + l.length)) ((h ++ l).getD (k % (h.length + l.length)) 0) t := by
  have hs : 0 < h.length + l.length := by have := List.length_pos_iff.mpr hl; omega
  have h1 : k / (h.length + l.length) < rows.length := Nat.div_lt_of_lt_mul (by rw [Nat.mul_comm]; exact hk)
  have h2 : k % (h.length + l.length) < (h ++ l).length := by rw [List.length_append]; exact Nat.mod_lt _ hs
  have e1 : rows[k / (h.length + l.length)]? = some rows[k / (h.length + l.length)] := List.getElem?_eq_getElem h1
  have e2 : (h ++ l)[k % (h.length + l.length)]? = some (h ++ l)[k % (h.length + l.length)] := List.getElem?_eq_getElem h2
  have z := b.let_ _ (List.mem_of_getElem? e2)
  have r := (b.row _ (List.mem_of_getElem? e1)).1
  have h3 : ((h ++ l)[k % (h.length + l.length)]).toNat < (rows[k / (h.length + l.length)]).length := by omega
  have e3 := List.getElem?_eq_getElem h3
  have e4 : (h ++ l).getD (k % (h.length + l.length)) 0 = (h ++ l)[k % (h.length + l.length)] := by rw [List.getD_eq_getElem?_getD, e2]; rfl
  unfold ent tr
  rw [e4, List.getD_eq_getElem?_getD (l := rows), e1, Option.getD_some, List.getD_eq_getElem?_getD, e3, Option.getD_some]
  exact ⟨fun h => ⟨_, _, rfl, e3, h⟩, fun ⟨r', e', a1, a2, a3⟩ => by
    obtain rfl := Option.some.inj a1
    rw [e3] at a2
    obtain rfl := Option.some.inj a2
    exact a3⟩
theorem dm {s p L : Nat} (hp : p < L) : (s * L + p) / L = s ∧ (s * L + p) % L = p := by
  have hL : 0 < L := by omega
  constructor
  · rw [Nat.add_comm, Nat.add_mul_div_right _ _ hL, Nat.div_eq_of_lt hp, Nat.zero_add]
  · rw [Nat.add_comm, Nat.add_mul_mod_self_right, Nat.mod_eq_of_lt hp]
theorem pair_lt {s p L n : Nat} (hp : p < L) (hs : s < n) : s * L + p < n * L := by
  have : (s + 1) * L ≤ n * L := Nat.mul_le_mul_right L hs
  rw [Nat.succ_mul] at this
  omega
/-- what the law reckons is whether some run accepts -/
theorem accV_iff (b : Bd rows ini h l wd) (hl : l ≠ []) : accV rows ini acc h l = true ↔ Run rows ini acc (wat h l) := by
  have hs : 0 < h.length + l.length := by have := List.length_pos_iff.mpr hl; omega
  generalize hL : h.length + l.length = L at hs
  have hbnd : Lv.Bnd (mvF rows h l) (rows.length * L) := fun k hk t ht => by
    unfold mvF at ht
    rw [hL] at ht
    obtain ⟨u, hu, rfl⟩ := List.mem_map.mp ht
    have hkp := Nat.mod_lt k hs
    have ha := aft_lim (h := h) hl (k % L) (by rw [hL]; exact hkp)
    rw [hL] at ha
    have hu0 : 0 ≤ u ∧ u < (rows.length : Int) := by
      unfold ent at hu
      rw [List.getD_eq_getElem?_getD, List.getD_eq_getElem?_getD (l := rows)] at hu
      cases e : rows[k / (h.length + l.length)]? with
      | none => rw [e] at hu; simp at hu
      | some r =>
        rw [e] at hu
        have hu : u ∈ (r[((h ++ l).getD (k % (h.length + l.length)) 0).toNat]?).getD [] := hu
        cases e2 : r[((h ++ l).getD (k % (h.length + l.length)) 0).toNat]? with
        | none => rw [e2] at hu; simp at hu
        | some x => rw [e2] at hu; exact (b.row r (List.mem_of_getElem? e)).2 x (List.mem_of_getElem? e2) u hu
    have := mul_lim hu0.1 hu0.2 ha.1 ha.2
    rw [Int.natCast_mul]
    exact this
  have hss : ∀ s ∈ ini.map (fun s => s * (L : Int)), 0 ≤ s ∧ s < ((rows.length * L : Nat) : Int) := fun s hs' => by
    obtain ⟨u, hu, rfl⟩ := List.mem_map.mp hs'
    have h1 := b.ini u hu
    have := mul_lim (s := L) (a := 0) h1.1 h1.2 (Int.le_refl 0) (by omega)
    rw [Int.natCast_mul]
    omega
  have e1 : accV rows ini acc h l = Lv.lives (mvF rows h l) (goF acc h l) (rows.length * L) (ini.map fun s => s * (L : Int)) := by
    unfold accV
    rw [hL]
  rw [e1, Lv.lives_iff hbnd hss]
  constructor
  · rintro ⟨s, h1, π, p0, p1, p2⟩
    obtain ⟨u, hu, rfl⟩ := List.mem_map.mp h1
    have hu0 := b.ini u hu
    obtain ⟨n, rfl⟩ : ∃ n : Nat, u = (n : Int) := ⟨u.toNat, by omega⟩
    have p0' : π 0 = n * L := by rw [p0, ← Int.natCast_mul, Int.toNat_natCast]
    have hlt : ∀ i, π i < rows.length * L := Lv.path_lt hbnd (by rw [p0']; have := pair_lt (n := rows.length) hs (show n < rows.length by omega); omega) p1
    -- each step
    have st : ∀ i, π (i + 1) % L = (if π i % L + 1 = L then h.length else π i % L + 1) ∧ tr rows (π i / L) ((h ++ l).getD (π i % L) 0) (π (i + 1) / L) := fun i => by
      have hm := p1 i
      unfold mvF at hm
      rw [hL] at hm
      obtain ⟨t, ht, e⟩ := List.mem_map.mp hm
      have ha := aft_lim (h := h) hl (π i % L) (by rw [hL]; exact Nat.mod_lt _ hs)
      rw [hL] at ha
      have hei := ent_iff (b := b) hl (k := π i) (t := t.toNat) (by rw [hL]; exact hlt i)
      rw [hL] at hei
      have ht0 : 0 ≤ t := by
        unfold ent at ht
        rw [List.getD_eq_getElem?_getD, List.getD_eq_getElem?_getD (l := rows)] at ht
        cases e : rows[π i / (h.length + l.length)]? with
        | none => rw [e] at ht; simp at ht
        | some r =>
          rw [e] at ht
          have ht : t ∈ (r[((h ++ l).getD (π i % (h.length + l.length)) 0).toNat]?).getD [] := ht
          cases e2 : r[((h ++ l).getD (π i % (h.length + l.length)) 0).toNat]? with
          | none => rw [e2] at ht; simp at ht
          | some x => rw [e2] at ht; exact ((b.row r (List.mem_of_getElem? e)).2 x (List.mem_of_getElem? e2) t ht).1
      obtain ⟨m, rfl⟩ : ∃ m : Nat, t = (m : Int) := ⟨t.toNat, by omega⟩
      rw [Int.toNat_natCast] at hei
      obtain ⟨q, hq⟩ : ∃ q : Nat, aft h l (π i % L) = (q : Int) := ⟨(aft h l (π i % L)).toNat, by omega⟩
      have e' : π (i + 1) = m * L + q := by
        rw [hq, ← Int.natCast_mul] at e
        omega
      have hql : q < L := by omega
      obtain ⟨d1, d2⟩ := dm (s := m) hql
      rw [e', d1, d2]
      refine ⟨?_, hei.mp ht⟩
      unfold aft at hq
      rw [hL] at hq
      split at hq <;> rename_i c
      · rw [if_pos c]; omega
      · rw [if_neg c]; omega
    have pl : ∀ i, π i % L = plc h l i := by
      intro i
      induction i with
      | zero => rw [p0', plc_zero, Nat.mul_mod_left]
      | succ i ih => rw [(st i).1, plc_succ hl, ← ih, hL]
    refine ⟨fun i => π i / L, ?_, fun i => ?_, fun i => ?_⟩
    · show (((π 0) / L : Nat) : Int) ∈ ini
      rw [p0', Nat.mul_div_cancel _ hs]; exact hu
    · have := (st i).2
      rw [pl i, plc_at hl] at this
      exact this
    · obtain ⟨j, h1, h2⟩ := p2 i
      refine ⟨j, h1, ?_⟩
      unfold goF at h2
      rw [hL] at h2
      exact of_decide_eq_true h2
  · rintro ⟨π, p0, p1, p2⟩
    have hlt : ∀ i, π i < rows.length := fun i => (tr_lt b (p1 i)).1
    have hpl := fun i => plc_lt (h := h) hl i
    rw [hL] at hpl
    refine ⟨((π 0 : Nat) : Int) * (L : Int), List.mem_map.mpr ⟨_, p0, rfl⟩, fun i => π i * L + plc h l i, ?_, fun i => ?_, fun i => ?_⟩
    · show π 0 * L + plc h l 0 = _
      rw [plc_zero, ← Int.natCast_mul, Int.toNat_natCast, Nat.add_zero]
    · show ((π (i + 1) * L + plc h l (i + 1) : Nat) : Int) ∈ mvF rows h l (π i * L + plc h l i)
      obtain ⟨d1, d2⟩ := dm (s := π i) (hpl i)
      unfold mvF
      rw [hL, d2]
      refine List.mem_map.mpr ⟨((π (i + 1) : Nat) : Int), (ent_iff b hl (by rw [hL]; exact pair_lt (hpl i) (hlt i))).mpr ?_, ?_⟩
      · rw [hL, d1, d2, plc_at hl]
        exact p1 i
      · unfold aft
        rw [hL, plc_succ hl, hL]
        split
        · push_cast; rfl
        · push_cast; omega
    · obtain ⟨j, h1, h2⟩ := p2 i
      refine ⟨j, h1, ?_⟩
      unfold goF
      rw [hL, (dm (s := π j) (hpl j)).1]
      exact decide_eq_true h2
end
/-- a walk that reads a word -/
inductive Wk (rows : List (List (List Int))) : Nat → List Int → Nat → Prop
  | nil (u : Nat) : Wk rows u [] u
  | cons {u x v : Nat} {a : Int} {w : List Int} : tr rows u a x → Wk rows x w v → Wk rows u (a :: w) v
theorem Wk.trans {rows : List (List (List Int))} {u v x : Nat} {w w' : List Int} (h : Wk rows u w v) (k : Wk rows v w' x) : Wk rows u (w ++ w') x := by
  induction h with
  | nil _ => exact k
  | cons e _ ih => exact .cons e (ih k)
theorem Wk.states {rows : List (List (List Int))} {u v : Nat} {w : List Int} (h : Wk rows u w v) : ∃ π : Nat → Nat, π 0 = u ∧ π w.length = v ∧ ∀ i, i < w.length → tr rows (π i) (w.getD i 0) (π (i + 1)) := by
  induction h with
  | nil u => exact ⟨fun _ => u, rfl, rfl, fun i h => absurd h (Nat.not_lt_zero i)⟩
  | @cons u x v a w e _ ih =>
    obtain ⟨π, h1, h2, h3⟩ := ih
    refine ⟨fun i => match i with | 0 => u | i + 1 => π i, rfl, h2, fun i hi => ?_⟩
    cases i with
    | zero => show tr rows u a (π 0); rw [h1]; exact e
    | succ i =>
      have := h3 i (by simpa using hi)
      simpa using this
/-- a lasso: there by the head, round by the loop, through an accepting state -/
theorem lasso_run {rows : List (List (List Int))} {ini acc : List Int} {s q : Nat} {h l : List Int} (hs : (s : Int) ∈ ini) (hq : (q : Int) ∈ acc) (w1 : Wk rows s h q) (w2 : Wk rows q l q) (hl : l ≠ []) : Run rows ini acc (wat h l) := by
  have hp := List.length_pos_iff.mpr hl
  obtain ⟨π, a1, a2, a3⟩ := w1.states
  obtain ⟨σ, b1, b2, b3⟩ := w2.states
  refine ⟨fun i => if i < h.length then π i else σ ((i - h.length) % l.length), ?_, fun i => ?_, fun i => ?_⟩
  · show (((if 0 < h.length then π 0 else σ ((0 - h.length) % l.length)) : Nat) : Int) ∈ ini
    split
    · rw [a1]; exact hs
    · rename_i c
      have c : h.length = 0 := by omega
      rw [c] at a2
      rw [c, Nat.zero_sub, Nat.zero_mod, b1, ← a2, a1]
      exact hs
  · show tr rows (if i < h.length then π i else σ ((i - h.length) % l.length)) (wat h l i) (if i + 1 < h.length then π (i + 1) else σ ((i + 1 - h.length) % l.length))
    unfold wat
    rcases Nat.lt_or_ge i h.length with c | c
    · rw [if_pos c, if_pos c]
      have := a3 i c
      rcases Nat.lt_or_ge (i + 1) h.length with d | d
      · rw [if_pos d]; exact this
      · rw [if_neg (by omega), show i + 1 - h.length = 0 by omega, Nat.zero_mod, b1, ← a2, show h.length = i + 1 by omega]
        exact this
    · rw [if_neg (by omega), if_neg (by omega), if_neg (by omega), show i + 1 - h.length = (i - h.length) + 1 by omega, mod_step _ _ hp]
      have := b3 _ (Nat.mod_lt (i - h.length) hp)
      split
      · rename_i e
        have e' : σ ((i - h.length) % l.length + 1) = q := by rw [e]; exact b2
        rw [b1, ← e']; exact this
      · exact this
  · refine ⟨h.length + l.length * (i + 1), ?_, ?_⟩
    · have : i + 1 ≤ l.length * (i + 1) := Nat.le_mul_of_pos_left _ hp
      omega
    · show (((if h.length + l.length * (i + 1) < h.length then π (h.length + l.length * (i + 1)) else σ ((h.length + l.length * (i + 1) - h.length) % l.length)) : Nat) : Int) ∈ acc
      rw [if_neg (by omega), Nat.add_sub_cancel_left, Nat.mul_mod_right, b1]
      exact hq
theorem get_idx {ns : List Kk} {u : Kk} (h : u ∈ ns) : ns[ns.idxOf u]? = some u := by
  induction ns with
  | nil => cases h
  | cons x l ih =>
    rw [List.idxOf_cons]
    by_cases e : x = u
    · rw [show (x == u) = true by simpa using e]
      exact congrArg some e
    · rw [show (x == u) = false by simpa using e]
      rcases List.mem_cons.mp h with z | z
      · exact absurd z.symm e
      · exact ih z
/-- a run of the product -/
def PRun (mv : Kk → Int → List Kk) (ac : Kk → Bool) (ks : List Kk) (wd : Nat → Int) : Prop := ∃ p : Nat → Kk, p 0 ∈ ks ∧ (∀ i, p (i + 1) ∈ mv (p i) (wd i)) ∧ ∀ i, ∃ j, i < j ∧ ac (p j) = true
theorem bu_run {mv : Kk → Int → List Kk} {ac : Kk → Bool} {L : Int} {ks ns : List Kk} {ini acc : List Int} {c : List (List (List Int))} {wd : Nat → Int} (B : BuR mv ac L ks ns ini acc c) (hw : ∀ i, 0 ≤ wd i ∧ wd i < L) : Run c ini acc wd ↔ PRun mv ac ks wd := by
  have hkn : ∀ k ∈ ks, k ∈ ns := fun k hk => (B.xpl.mem k).mpr (.start hk)
  have hz : ∀ i, ((wd i).toNat : Int) = wd i := fun i => Int.toNat_of_nonneg (hw i).1
  have cls : ∀ u ∈ ns, ∀ i, ∀ v ∈ mv u (wd i), v ∈ ns := fun u hu i v hv => (B.xpl.mem v).mpr (.step ((B.xpl.mem u).mp hu) (List.mem_flatMap.mpr ⟨(wd i).toNat, List.mem_range.mpr (by have := hw i; omega), by rw [hz]; exact hv⟩))
  constructor
  · rintro ⟨π, h0, ht, hf⟩
    have st : ∀ i u, ns[π i]? = some u → ∃ v ∈ mv u (wd i), ns[π (i + 1)]? = some v := fun i u hu => by
      obtain ⟨r, e, h1, h2, h3⟩ := ht i
      obtain ⟨r', e', g1, g2, g3⟩ := B.row (π i) u hu (wd i).toNat (by rw [hz]; exact (hw i).2)
      rw [h1] at g1
      obtain rfl := Option.some.inj g1
      rw [h2] at g2
      obtain rfl := Option.some.inj g2
      obtain ⟨v, hv, e⟩ := (g3 _).mp h3
      rw [hz] at hv
      refine ⟨v, hv, ?_⟩
      rw [show π (i + 1) = ns.idxOf v by omega]
      exact get_idx (cls u (List.mem_of_getElem? hu) i v hv)
    have at_ : ∀ i, ∃ u, ns[π i]? = some u := fun i => by
      induction i with
      | zero =>
        rw [B.ini] at h0
        obtain ⟨k, hk, e⟩ := List.mem_map.mp h0
        exact ⟨k, by rw [show π 0 = ns.idxOf k by omega]; exact get_idx (hkn k hk)⟩
      | succ i ih =>
        obtain ⟨u, hu⟩ := ih
        obtain ⟨v, _, hv⟩ := st i u hu
        exact ⟨v, hv⟩
    have gd : ∀ i u, ns[π i]? = some u → ns.getD (π i) [] = u := fun i u h => by rw [List.getD_eq_getElem?_getD, h]; rfl
    refine ⟨fun i => ns.getD (π i) [], ?_, fun i => ?_, fun i => ?_⟩
    · rw [B.ini] at h0
      obtain ⟨k, hk, e⟩ := List.mem_map.mp h0
      show ns.getD (π 0) [] ∈ ks
      rw [gd 0 k (by rw [show π 0 = ns.idxOf k by omega]; exact get_idx (hkn k hk))]
      exact hk
    · obtain ⟨u, hu⟩ := at_ i
      obtain ⟨v, h1, h2⟩ := st i u hu
      show ns.getD (π (i + 1)) [] ∈ mv (ns.getD (π i) []) _
      rw [gd i u hu, gd (i + 1) v h2]
      exact h1
    · obtain ⟨j, hj, ha⟩ := hf i
      obtain ⟨u, hu⟩ := at_ j
      refine ⟨j, hj, ?_⟩
      show ac (ns.getD (π j) []) = true
      rw [gd j u hu]
      exact (B.acc (π j) u hu).mp ha
  · rintro ⟨p, h0, ht, hf⟩
    have hin : ∀ i, p i ∈ ns := fun i => by
      induction i with
      | zero => exact hkn _ h0
      | succ i ih => exact cls _ ih i _ (ht i)
    refine ⟨fun i => ns.idxOf (p i), ?_, fun i => ?_, fun i => ?_⟩
    · rw [B.ini]
      exact List.mem_map.mpr ⟨p 0, h0, rfl⟩
    · obtain ⟨r, e, g1, g2, g3⟩ := B.row (ns.idxOf (p i)) (p i) (get_idx (hin i)) (wd i).toNat (by rw [hz]; exact (hw i).2)
      exact ⟨r, e, g1, g2, (g3 _).mpr ⟨p (i + 1), by rw [hz]; exact ht i, rfl⟩⟩
    · obtain ⟨j, hj, ha⟩ := hf i
      exact ⟨j, hj, (B.acc _ _ (get_idx (hin j))).mpr ha⟩
theorem bu_len {mv : Kk → Int → List Kk} {ac : Kk → Bool} {L : Int} {ks ns U : List Kk} {ini acc : List Int} {c : List (List (List Int))} (B : BuR mv ac L ks ns ini acc c) (hk : ∀ k ∈ ks, k ∈ U) (hU : ∀ u ∈ U, ∀ z : Int, 0 ≤ z → z < L → ∀ t ∈ mv u z, t ∈ U) : c.length ≤ U.length := by
  rw [B.len]
  refine nd_sub B.xpl.nd fun u hu => ?_
  have : ∀ {u}, Rk (nxB mv L) ks u → u ∈ U := fun h => by
    induction h with
    | start h => exact hk _ h
    | step _ h ih => exact nxB_cl hU _ ih _ h
  exact this ((B.xpl.mem u).mp hu)
/-- plain objects stay -/
def KO (H H' : Hp) : Prop := ∀ b o, H b = some o → (∀ ps, o ≠ .tbl ps) → (∀ ob x, o ≠ .frz ob x) → H' b = some o
theorem KO.of {H H' : Hp} (k : LamX.ExtN H H') : KO H H' := fun b o e n _ => k b o e n
def Pl (mk : List V → HO) : Prop := ∀ xs, (∀ ps, mk xs ≠ .tbl ps) ∧ ∀ ob x, mk xs ≠ .frz ob x
theorem pl_t : Pl .tup := fun xs => ⟨fun ps z => by (cases z), fun _ _ z => by (cases z)⟩
theorem pl_l : Pl .lst := fun xs => ⟨fun ps z => by (cases z), fun _ _ z => by (cases z)⟩
theorem rows_ko {H H' : Hp} {mk : List V → HO} (m : Pl mk) (k : KO H H') : ∀ {as : List Addr} {rs : List (List Int)}, RowsA mk H as rs → RowsA mk H' as rs
  | [], [], _ => True.intro
  | a :: as, r :: rs, h => ⟨k _ _ h.1 (m _).1 (m _).2, rows_ko m k h.2⟩
  | [], _ :: _, h => h.elim
  | _ :: _, [], h => h.elim
theorem cub_ko {H H' : Hp} {mk : List V → HO} (m : Pl mk) (k : KO H H') : ∀ {as : List Addr} {bss : List (List Addr)} {c : List (List (List Int))}, CubB mk H as bss c → CubB mk H' as bss c
  | [], [], [], _ => True.intro
  | a :: as, bs :: bss, r :: rs, h => ⟨⟨k _ _ h.1.1 (m _).1 (m _).2, rows_ko m k h.1.2⟩, cub_ko m k h.2⟩
  | [], [], _ :: _, h => h.elim
  | [], _ :: _, _, h => h.elim
  | _ :: _, [], _, h => h.elim
  | _ :: _, _ :: _, [], h => h.elim
theorem lc_ext {H H' : Hp} {r : Addr} {as : List Addr} {bss : List (List Addr)} {c : List (List (List Int))} (k : LamX.ExtN H H') (h : LC H r as bss c) : LC H' r as bss c := ⟨k _ _ h.1 (pl_l _).1, cub_ko pl_l (.of k) h.2⟩
theorem las_ext {H H' : Hp} {p : Addr} {h l : List Int} (k : LamX.ExtN H H') (e : Las H p h l) : Las H' p h l := by
  obtain ⟨a, b, e1, e2, e3⟩ := e
  exact ⟨a, b, k _ _ e1 (pl_t _).1, k _ _ e2 (pl_t _).1, k _ _ e3 (pl_t _).1⟩
theorem aut_ko {C : Addr} {H H' : Hp} {x : Addr} {L : Int} {ini acc : List Int} {c : List (List (List Int))} (k : KO H H') (h : AutAt C H x L ini acc c) : AutAt C H' x L ini acc c := by
  obtain ⟨dx, it, at_, rt, as, bss, e1, e2, e3, e4, e5⟩ := h
  exact ⟨dx, it, at_, rt, as, bss, k _ _ e1 (by intro ps z; cases z) (by intro _ _ z; cases z), k _ _ e2 (by intro ps z; cases z) (by intro _ _ z; cases z), k _ _ e3 (by intro ps z; cases z) (by intro _ _ z; cases z), k _ _ e4 (by intro ps z; cases z) (by intro _ _ z; cases z), cub_ko pl_t k e5⟩
theorem aut_ext {C : Addr} {H H' : Hp} {x : Addr} {L : Int} {ini acc : List Int} {c : List (List (List Int))} (k : LamX.ExtN H H') (h : AutAt C H x L ini acc c) : AutAt C H' x L ini acc c := aut_ko (.of k) h
theorem tabs_rem {T : List NdefX.NTab} {cl : List (Str × Addr)} {H2 : Hp} (hc : ∀ b ∈ Clo.adr cl, ∃ o x, H2 b = some (.frz o x)) (t : NdefX.TabsN T H2) : NdefX.TabsN T (Clo.remC cl H2) := fun p hp => by
  obtain ⟨ps, h1, h2, h3⟩ := t p hp
  refine ⟨ps, Clo.rem_keep hc h1 (by intro _ _ z; cases z), h2, fun pos cv hv => ?_⟩
  obtain ⟨c, e1, e2⟩ := h3 pos cv hv
  exact ⟨c, e1, Clo.rem_keep hc e2 (by intro _ _ z; unfold LamX.CodeO at z; cases z)⟩
theorem ext_rem {cl : List (Str × Addr)} {g : Addr → V} {os : Addr → Obj} {H1 H2 : Hp} (n : ∀ b ∈ Clo.adr cl, H1 b = none) (s : LamX.ExtN (Clo.addC cl g os H1) H2) : LamX.ExtN H1 (Clo.remC cl H2) := fun b o e nt => by
  rw [Clo.rem_out fun z => ?_]
  · exact s _ _ (Clo.add_keep n b o e) nt
  · rw [n b z] at e; cases e
theorem frz_ext {cl : List (Str × Addr)} {g : Addr → V} {os : Addr → Obj} {H1 H2 : Hp} (s : LamX.ExtN (Clo.addC cl g os H1) H2) : ∀ b ∈ Clo.adr cl, ∃ o x, H2 b = some (.frz o x) := fun b hb => ⟨_, _, s _ _ (Clo.add_in hb) (by intro ps z; cases z)⟩
theorem ko_rem {cl : List (Str × Addr)} {H2 : Hp} (hc : ∀ b ∈ Clo.adr cl, ∃ o x, H2 b = some (.frz o x)) : KO H2 (Clo.remC cl H2) := fun b o e _ n => Clo.rem_keep hc e n
theorem ko_cel {F : NdefX.NF} {fr : List Str} {ws : List (Option V)} {H H' : Hp} (C : Clo.Cel F fr ws H') (k : LamX.ExtN H H') : KO H (Clo.remC F.cl H') := fun b o e n1 n2 => C.keep (k _ _ e n1) n2
def tgP (rows : List (List Int)) (a z : Int) : Int := (rows.getD a.toNat []).getD z.toNat 0
def prP (ps : List Int) (t : Int) : Int := ps.getD t.toNat 0
def mvP (rows : List (List Int)) (ps : List Int) (u : Kk) (z : Int) : List Kk := match u with
  | [a, g] => if 0 ≤ g then (if prP ps (tgP rows a z) ≤ g then [[tgP rows a z, g]] else []) else (if prP ps (tgP rows a z) % 2 = 0 then [[tgP rows a z, -1], [tgP rows a z, prP ps (tgP rows a z)]] else [[tgP rows a z, -1]])
  | _ => []
def acP (ps : List Int) (u : Kk) : Bool := match u with
  | [a, g] => decide (prP ps a = g)
  | _ => false
def unP (n m : Nat) : List Kk := (List.range n).flatMap fun a : Nat => (List.range (m + 2)).map fun k : Nat => [(a : Int), (k : Int) - 1]
theorem mem_unP {n m : Nat} {u : Kk} : u ∈ unP n m ↔ ∃ (a : Nat) (g : Int), a < n ∧ -1 ≤ g ∧ g ≤ m ∧ u = [(a : Int), g] := by
  unfold unP
  rw [List.mem_flatMap]
  constructor
  · rintro ⟨a, ha, h⟩
    obtain ⟨k, hk, rfl⟩ := List.mem_map.mp h
    have := List.mem_range.mp hk
    exact ⟨a, (k : Int) - 1, List.mem_range.mp ha, by omega, by omega, rfl⟩
  · rintro ⟨a, g, ha, h1, h2, rfl⟩
    exact ⟨a, List.mem_range.mpr ha, List.mem_map.mpr ⟨(g + 1).toNat, List.mem_range.mpr (by omega), by rw [Int.toNat_of_nonneg (by omega)]; congr 2; omega⟩⟩
theorem unP_len (n m : Nat) : (unP n m).length = n * (m + 2) := by
  unfold unP
  induction n with
  | zero => simp
  | succ n ih =>
    rw [show List.range (n + 1) = List.range n ++ [n] from List.range_succ, List.flatMap_append, List.length_append, ih, Nat.succ_mul]
    simp
theorem mvP_len (rows : List (List Int)) (ps : List Int) (u : Kk) (z : Int) : (mvP rows ps u z).length ≤ 60 := by
  unfold mvP
  split
  · split
    · split
      · exact (by decide : 1 ≤ 60)
      · exact (by decide : 0 ≤ 60)
    · split
      · exact (by decide : 2 ≤ 60)
      · exact (by decide : 1 ≤ 60)
  · exact (by decide : 0 ≤ 60)
theorem tgP_in {L s : Int} {ps : List Int} {rows : List (List Int)} (V : Vld L s ps rows) (a z : Int) : 0 ≤ tgP rows a z ∧ tgP rows a z < (rows.length : Int) := by
  have hn : 0 < rows.length := List.length_pos_iff.mpr V.2.1
  unfold tgP
  rw [List.getD_eq_getElem?_getD, List.getD_eq_getElem?_getD]
  cases e : rows[a.toNat]? with
  | none => exact ⟨Int.le_refl _, by show (0 : Int) < _; omega⟩
  | some r =>
    show 0 ≤ (r[z.toNat]?).getD 0 ∧ (r[z.toNat]?).getD 0 < _
    cases e2 : r[z.toNat]? with
    | none => exact ⟨Int.le_refl _, by show (0 : Int) < _; omega⟩
    | some t => exact (V.2.2.2.2.1 r (List.mem_of_getElem? e)).2 t (List.mem_of_getElem? e2)
theorem prP_in {L s : Int} {ps : List Int} {rows : List (List Int)} (V : Vld L s ps rows) (t : Int) : 0 ≤ prP ps t := by
  unfold prP
  rw [List.getD_eq_getElem?_getD]
  cases e : ps[t.toNat]? with
  | none => exact Int.le_refl _
  | some p => exact V.2.2.2.2.2 p (List.mem_of_getElem? e)
theorem prP_le {ps : List Int} {m : Nat} (hm : ∀ p ∈ ps, p ≤ (m : Int)) (t : Int) : prP ps t ≤ m := by
  unfold prP
  rw [List.getD_eq_getElem?_getD]
  cases e : ps[t.toNat]? with
  | none => exact Int.natCast_nonneg m
  | some p => exact hm p (List.mem_of_getElem? e)
theorem mvP_cl {L s : Int} {ps : List Int} {rows : List (List Int)} {m : Nat} (V : Vld L s ps rows) (hm : ∀ p ∈ ps, p ≤ (m : Int)) : ∀ u ∈ unP rows.length m, ∀ z : Int, 0 ≤ z → z < L → ∀ t ∈ mvP rows ps u z, t ∈ unP rows.length m := by
  intro u hu z _ _ t ht
  obtain ⟨a, g, ha, g1, g2, rfl⟩ := mem_unP.mp hu
  have b := tgP_in V a z
  have q1 := prP_in V (tgP rows a z)
  have q2 := prP_le hm (tgP rows a z)
  have mk : ∀ g' : Int, -1 ≤ g' → g' ≤ m → [tgP rows a z, g'] ∈ unP rows.length m := fun g' h1 h2 => mem_unP.mpr ⟨(tgP rows a z).toNat, g', by omega, h1, h2, by rw [Int.toNat_of_nonneg b.1]⟩
  have ht : t ∈ (if 0 ≤ g then (if prP ps (tgP rows a z) ≤ g then [[tgP rows a z, g]] else []) else (if prP ps (tgP rows a z) % 2 = 0 then [[tgP rows a z, -1], [tgP rows a z, prP ps (tgP rows a z)]] else [[tgP rows a z, -1]]) : List Kk) := ht
  split at ht
  · split at ht
    · rw [List.mem_singleton.mp ht]; exact mk _ g1 g2
    · cases ht
  · split at ht
    · rcases List.mem_cons.mp ht with h | h
      · rw [h]; exact mk _ (by omega) (by omega)
      · rw [List.mem_singleton.mp h]; exact mk _ (by omega) q2
    · rw [List.mem_singleton.mp ht]; exact mk _ (by omega) (by omega)
def spMvP (D : Addr) (ws : List (Option V)) : Sp := fun vs H Q _ => ∃ (x a : Addr) (L s z : Int) (ps : List Int) (rows : List (List Int)) (m : Nat) (u : Kk), ws = [some (.ref x)] ∧ vs = [.ref a, .int z] ∧ ParAt D H x L s ps rows ∧ Vld L s ps rows ∧ (∀ p ∈ ps, p ≤ (m : Int)) ∧ rows.length ≤ 1000 ∧
  u ∈ unP rows.length m ∧ H a = some (.tup (u.map V.int)) ∧ 0 ≤ z ∧ z < L ∧
  ∀ (H2 : Hp) (l2 : Addr) (ts : List Addr), Same H H2 → H l2 = none → H2 l2 = some (.lst (ts.map V.ref)) → Tps H2 ts (mvP rows ps u z) → Q (.ref l2) H2
theorem ok_mvP {D f c' : Addr} {q : Str} {cells : List (Str × Addr)} (T : Txt K mg cA0 PA0 cA1 PA1) (PC : ParC K D) :
    NdefX.NOk P w K mg base CX0 2 f (NdefX.NF.of sn_to_buchi_moves "moves" q (cloFrom cells (C8.fnScope sn_to_buchi_moves).names []) c') ["state", "letter"] ["parity"] (spMvP D) := by
  refine Clo.nokC_of (N := N_to_buchi_moves) sc_to_buchi_moves (fun y c h => Clo.clo_free sc_to_buchi_moves h) (fun _ _ _ us hl => match us, hl with | [_, _], _ => rfl) (fun ws vs H Q E h => ?_) (fun A outer s H vs ws Q E hr hf hcd hwl h => ?_)
  · obtain ⟨x, a, L, s, z, ps, rows, m, u, _, rfl, _⟩ := h
    rfl
  · obtain ⟨x, a, L, st, z, ps, rows, m, u, rfl, rfl, hP, V1, hm, hrl, hu, ha, hz0, hz1, q⟩ := h
    refine ⟨_, (pss_cons
      (ps_asg (pv 0) (pg_tup (by rfl) (pgs_cons (pg_name (i := 3) sc_to_buchi_moves.nd rfl (.inl rfl)) (pgs_cons (pg_name (i := 4) sc_to_buchi_moves.nd rfl (.inl rfl)) pgs_nil))))
      (pss_cons
      (ps_set (i := 5) sc_to_buchi_moves.nd rfl (Or.inl rfl) (pe_ix (ix_tupK (K := K) rfl) (pe_ix (ix_tupK (K := K) rfl) (pe_fld (pv 2) rfl) (pv 3) (fun _ _ => rfl)) (pv 1) (fun _ _ => rfl)))
      (pss_cons
      (ps_set (i := 6) sc_to_buchi_moves.nd rfl (Or.inl rfl) (pe_ix (ix_tupK (K := K) rfl) (pe_fld (pv 2) rfl) (pv 5) (fun _ _ => rfl)))
      (pss_cons
      (ps_if (pt_cmpR op_ge (pv 4) pe_int (nomark _)) (pss_one
      (ps_ret (pe_ifExp (pt_cmpR op_le (pv 6) (pv 4) (nomark _)) (pe_lst (pa_cons (pe_tup (pa_cons (pv 5) (pa_cons (pv 4) pa_nil))) pa_nil)) (pe_lst pa_nil)))) pss_nil)
      (pss_one
      (ps_ret (pe_ifExp (pt_cmpR op_eq (pe_op op_mod (pv 6) pe_int) pe_int (nomark _)) (pe_lst (pa_cons (pe_tup (pa_cons (pv 5) (pa_cons (pe_un un_neg pe_int) pa_nil))) (pa_cons (pe_tup (pa_cons (pv 5) (pa_cons (pv 6) pa_nil))) pa_nil))) (pe_lst (pa_cons (pe_tup (pa_cons (pv 5) (pa_cons (pe_un un_neg pe_int) pa_nil))) pa_nil))))))))), ?_⟩
    obtain ⟨i, g, hi, g1, g2, rfl⟩ := mem_unP.mp hu
    obtain ⟨dx, pt, rt, as, e1, e2, e3, e4⟩ := id hP
    obtain ⟨ra, hra0⟩ : ∃ r, as[i]? = some r := ⟨_, List.getElem?_eq_getElem (by have := e4.len; omega)⟩
    obtain ⟨row, hrow, hra⟩ := e4.get hra0
    have hl1 := (V1.2.2.2.2.1 row (List.mem_of_getElem? hrow)).1
    obtain ⟨t, ht⟩ : ∃ t, row[z.toNat]? = some t := ⟨_, List.getElem?_eq_getElem (by omega)⟩
    have hz : (z.toNat : Int) = z := Int.toNat_of_nonneg hz0
    have htb := (V1.2.2.2.2.1 row (List.mem_of_getElem? hrow)).2 t (List.mem_of_getElem? ht)
    obtain ⟨p, hp⟩ : ∃ p, ps[t.toNat]? = some p := ⟨_, List.getElem?_eq_getElem (by have := V1.2.2.1; omega)⟩
    have ht2 : tgP rows (i : Int) z = t := by
      unfold tgP
      rw [Int.toNat_natCast, List.getD_eq_getElem?_getD, List.getD_eq_getElem?_getD, hrow]
      show (row[z.toNat]?).getD 0 = _
      rw [ht]; rfl
    have hp2 : prP ps t = p := by
      unfold prP
      rw [List.getD_eq_getElem?_getD, hp]; rfl
    have htt : (t.toNat : Int) = t := Int.toNat_of_nonneg htb.1
    have emv : mvP rows ps [(i : Int), g] z = (if 0 ≤ g then (if p ≤ g then [[t, g]] else []) else (if p % 2 = 0 then [[t, -1], [t, p]] else [[t, -1]])) := by
      show (if 0 ≤ g then (if prP ps (tgP rows i z) ≤ g then [[tgP rows i z, g]] else []) else (if prP ps (tgP rows i z) % 2 = 0 then [[tgP rows i z, -1], [tgP rows i z, prP ps (tgP rows i z)]] else [[tgP rows i z, -1]])) = _
      rw [ht2, hp2]
    rw [emv] at q
    refine ⟨_, rfl, a, _, rfl, .of ha, rfl, _, _, rfl, _, _, rfl, rfl, ?_⟩
    refine ⟨_, rfl, x, D, dx, _, _, rfl, e1, PC.cl, PC.nR, pf_r _ _ _ _, _, rfl, rt, _, _, .ref ra, rfl, rfl, .of e3, atN hra0, _, rfl, ra, _, _, .int t, rfl, rfl, .of hra, by rw [← hz]; exact atN ht, ?_⟩
    refine ⟨_, rfl, x, D, dx, _, _, rfl, e1, PC.cl, PC.nP, pf_p _ _ _ _, _, rfl, pt, _, _, .int p, rfl, rfl, .of e2, by rw [← htt]; exact atN hp, ?_⟩
    have one : ∀ {H1 : Hp} {pp l : Addr} {g' : Int}, Same H H1 → H1 pp = some (.tup [.int t, .int g']) → H1 l = none → Tps (upd H1 l (.lst [V.ref pp])) [pp] [[t, g']] := fun {H1 pp l g'} s1 ep nl =>
      ⟨rfl, fun j b hb => by
        cases j with
        | zero =>
          obtain rfl := Option.some.inj hb
          exact ⟨_, rfl, by rw [upd_ne (ne_of_none ep nl)]; exact ep⟩
        | succ j => (cases hb)⟩
    refine ⟨_, rfl, _, _, rfl, rfl, _, rfl, ?_⟩
    by_cases cg : 0 ≤ g
    · rw [if_pos cg] at q
      refine iteB_t (decide_eq_true cg) ?_
      refine ⟨_, rfl, _, rfl, _, _, rfl, rfl, _, rfl, ?_⟩
      by_cases cp : p ≤ g
      · rw [if_pos cp] at q
        refine iteB_t (decide_eq_true cp) ?_
        refine ⟨_, rfl, _, rfl, by show 2 ≤ sizeLine; decide, fun pp npp => ?_⟩
        generalize hX : upd H pp _ = H1; obtain ⟨sH1, epp⟩ := nw npp hX; clear hX
        refine ⟨by show 1 ≤ sizeLine; decide, fun l nl => ?_⟩
        exact q _ l [pp] (sH1.trans (same_new nl)) (sH1.free nl) upd_same (one sH1 epp nl)
      · rw [if_neg cp] at q
        refine iteB_f (decide_eq_false cp) ?_
        refine ⟨Nat.zero_le _, fun l nl => ?_⟩
        exact q _ l [] (same_new nl) nl upd_same ⟨rfl, fun j b hb => by (cases hb)⟩
    · rw [if_neg cg] at q
      refine iteB_f (decide_eq_false cg) ?_
      refine ⟨_, rfl, _, _, rfl, rfl, (show (0 : Int) < 2 by decide), rfl, _, rfl, ite_eq (fun cp => ?_) (fun cp => ?_)⟩
      · rw [if_pos cp] at q
        refine ⟨_, rfl, _, rfl, by show 2 ≤ sizeLine; decide, fun p1 np1 => ?_⟩
        generalize hX : upd H p1 _ = H1; obtain ⟨sH1, ep1⟩ := nw np1 hX; clear hX
        refine ⟨_, rfl, _, rfl, by show 2 ≤ sizeLine; decide, fun p2 np2 => ?_⟩
        generalize hX : upd H1 p2 _ = H2; obtain ⟨sH2, ep2⟩ := nw np2 hX; clear hX
        refine ⟨by show 2 ≤ sizeLine; decide, fun l nl => ?_⟩
        have s02 := sH1.trans sH2
        refine q _ l [p1, p2] (s02.trans (same_new nl)) (s02.free nl) upd_same ⟨rfl, fun j b hb => ?_⟩
        cases j with
        | zero =>
          obtain rfl := Option.some.inj hb
          exact ⟨_, rfl, by rw [upd_ne (ne_of_none (sH2 _ _ ep1) nl)]; exact sH2 _ _ ep1⟩
        | succ j =>
          cases j with
          | zero =>
            obtain rfl := Option.some.inj hb
            exact ⟨_, rfl, by rw [upd_ne (ne_of_none ep2 nl)]; exact ep2⟩
          | succ j => cases hb
      · rw [if_neg cp] at q
        refine ⟨_, rfl, _, rfl, by show 2 ≤ sizeLine; decide, fun pp npp => ?_⟩
        generalize hX : upd H pp _ = H1; obtain ⟨sH1, epp⟩ := nw npp hX; clear hX
        refine ⟨by show 1 ≤ sizeLine; decide, fun l nl => ?_⟩
        exact q _ l [pp] (sH1.trans (same_new nl)) (sH1.free nl) upd_same (one sH1 epp nl)
def spAcP (D : Addr) (ws : List (Option V)) : Sp := fun vs H Q _ => ∃ (x a : Addr) (L s : Int) (ps : List Int) (rows : List (List Int)) (m : Nat) (u : Kk), ws = [some (.ref x)] ∧ vs = [.ref a] ∧ ParAt D H x L s ps rows ∧ Vld L s ps rows ∧
  u ∈ unP rows.length m ∧ H a = some (.tup (u.map V.int)) ∧ ∀ H2 : Hp, Same H H2 → Q (.bl (acP ps u)) H2
theorem ok_acP {D f c' : Addr} {q : Str} {cells : List (Str × Addr)} (T : Txt K mg cA0 PA0 cA1 PA1) (PC : ParC K D) :
    NdefX.NOk P w K mg base CX0 1 f (NdefX.NF.of sn_to_buchi_accepting "accepting" q (cloFrom cells (C8.fnScope sn_to_buchi_accepting).names []) c') ["state"] ["parity"] (spAcP D) := by
  refine Clo.nokC_of (N := N_to_buchi_accepting) sc_to_buchi_accepting (fun y c h => Clo.clo_free sc_to_buchi_accepting h) (fun _ _ _ us hl => match us, hl with | [_], _ => rfl) (fun ws vs H Q E h => ?_) (fun A outer s H vs ws Q E hr hf hcd hwl h => ?_)
  · obtain ⟨x, a, L, s, ps, rows, m, u, _, rfl, _⟩ := h
    rfl
  · obtain ⟨x, a, L, st, ps, rows, m, u, rfl, rfl, hP, V1, hu, ha, q⟩ := h
    refine ⟨_, (pss_one
      (ps_ret (pe_cmpR op_eq (pe_ix (ix_tupK (K := K) rfl) (pe_fld (pv 1) rfl) (pe_ix (ix_tupK (K := K) rfl) (pv 0) pe_int (fun _ _ => rfl)) (fun _ _ => rfl)) (pe_ix (ix_tupK (K := K) rfl) (pv 0) pe_int (fun _ _ => rfl)) (nomark _)))), ?_⟩
    obtain ⟨i, g, hi, g1, g2, rfl⟩ := mem_unP.mp hu
    obtain ⟨dx, pt, rt, as, e1, e2, e3, e4⟩ := id hP
    obtain ⟨p, hp⟩ : ∃ p, ps[i]? = some p := ⟨_, List.getElem?_eq_getElem (by have := V1.2.2.1; omega)⟩
    have hp2 : prP ps i = p := by
      unfold prP
      rw [Int.toNat_natCast, List.getD_eq_getElem?_getD, hp]; rfl
    refine ⟨_, rfl, x, D, dx, _, _, rfl, e1, PC.cl, PC.nP, pf_p _ _ _ _, _, rfl, a, _, _, .int i, rfl, rfl, .of ha, rfl, pt, _, _, .int p, rfl, rfl, .of e2, atN hp, _, rfl, a, _, _, .int g, rfl, rfl, .of ha, rfl, rfl, ?_⟩
    have := q H (Same.refl _)
    rw [show acP ps [(i : Int), g] = decide (p = g) by show decide (prP ps i = g) = _; rw [hp2]] at this
    rwa [show decide (V.int p = V.int g) = decide (p = g) by rw [decide_eq_decide]; exact ⟨fun h => V.int.inj h, fun h => by rw [h]⟩]
theorem par_ko {D : Addr} {H H' : Hp} {x : Addr} {L s : Int} {ps : List Int} {rows : List (List Int)} (k : KO H H') (h : ParAt D H x L s ps rows) : ParAt D H' x L s ps rows := by
  obtain ⟨dx, pt, rt, as, e1, e2, e3, e4⟩ := h
  exact ⟨dx, pt, rt, as, k _ _ e1 (by intro ps z; cases z) (by intro _ _ z; cases z), k _ _ e2 (by intro ps z; cases z) (by intro _ _ z; cases z), k _ _ e3 (by intro ps z; cases z) (by intro _ _ z; cases z), rows_ko pl_t k e4⟩
theorem par_ext {D : Addr} {H H' : Hp} {x : Addr} {L s : Int} {ps : List Int} {rows : List (List Int)} (k : LamX.ExtN H H') (h : ParAt D H x L s ps rows) : ParAt D H' x L s ps rows := par_ko (.of k) h
/-- to_buchi: the product, trimmed -/
def spTb (C D PA0 PA1 : Addr) : Sp := fun vs H Q _ => ∃ (x : Addr) (L s : Int) (ps : List Int) (rows : List (List Int)) (m : Nat), vs = [.ref x] ∧ ParAt D H x L s ps rows ∧ Vld L s ps rows ∧ (∀ p ∈ ps, p ≤ (m : Int)) ∧ rows.length * (m + 2) ≤ 1000 ∧ L ≤ 30 ∧ rows.length ≤ 1000 ∧ NdefX.TabsN (TbT PA0 PA1) H ∧
  ∀ (H' : Hp) (z : Addr) (ns : List Kk) (ini acc : List Int) (c : List (List (List Int))) (us : List Nat), LamX.ExtN H H' → NdefX.TabsN (TbT PA0 PA1) H' → BuR (mvP rows ps) (acP ps) L [[s, -1]] ns ini acc c → Us c ini acc us → AutAt C H' z L (ren us ini) (ren us acc) (trmC L us c) → Q (.ref z) H'
theorem bu_row {mv : Kk → Int → List Kk} {ac : Kk → Bool} {L : Int} {ks ns : List Kk} {ini acc : List Int} {c : List (List (List Int))} (B : BuR mv ac L ks ns ini acc c) (h2 : ∀ u z, (mv u z).length ≤ 2) (hL : L ≤ 30) : ∀ r ∈ c, r.flatten.length ≤ 63 := fun r hr => by
  obtain ⟨i, hi⟩ := List.mem_iff_getElem?.mp hr
  have hil : i < ns.length := by rw [← B.len]; exact lt_of_get hi
  have hV := B.vld.2.2.2.2 r hr
  have he : ∀ e ∈ r, e.length ≤ 2 := fun e he => by
    obtain ⟨z, hz⟩ := List.mem_iff_getElem?.mp he
    have hzl := lt_of_get hz
    obtain ⟨r', e', g1, g2, g3⟩ := B.row i ns[i] (List.getElem?_eq_getElem hil) z (by omega)
    rw [hi] at g1
    obtain rfl := Option.some.inj g1
    rw [hz] at g2
    obtain rfl := Option.some.inj g2
    have nd : e.Nodup := by
      rw [List.nodup_iff_pairwise_ne]
      exact (hV.2 e he).1.imp fun h => by omega
    have sub : ∀ x ∈ e, x ∈ (mv ns[i] (z : Nat)).map fun v => ((ns.idxOf v : Nat) : Int) := fun x hx => by
      obtain ⟨v, hv, e⟩ := (g3 x).mp hx
      exact List.mem_map.mpr ⟨v, hv, e.symm⟩
    have key : ∀ {l U : List Int}, l.Nodup → (∀ x ∈ l, x ∈ U) → l.length ≤ U.length := by
      intro l
      induction l with
      | nil => intro U _ _; exact Nat.zero_le _
      | cons x l ih =>
        intro U nd h
        rw [List.nodup_cons] at nd
        have hx := h x List.mem_cons_self
        have := ih (U := U.erase x) nd.2 fun y hy => (List.mem_erase_of_ne (fun z => nd.1 (by rw [← z]; exact hy))).mpr (h y (List.mem_cons_of_mem _ hy))
        rw [List.length_erase_of_mem hx] at this
        have := List.length_pos_of_mem hx
        rw [List.length_cons]
        omega
    have := key nd sub
    rw [List.length_map] at this
    exact Nat.le_trans this (h2 _ _)
  have fl : ∀ q : List (List Int), (∀ e ∈ q, e.length ≤ 2) → q.flatten.length ≤ q.length * 2 := fun q h => by
    induction q with
    | nil => exact Nat.zero_le _
    | cons a q ih =>
      rw [List.flatten_cons, List.length_append, List.length_cons, Nat.succ_mul]
      have := ih fun e he => h e (List.mem_cons_of_mem _ he)
      have := h a List.mem_cons_self
      omega
  have := fl r he
  have := hV.1
  omega
theorem mvP_len2 (rows : List (List Int)) (ps : List Int) (u : Kk) (z : Int) : (mvP rows ps u z).length ≤ 2 := by
  unfold mvP
  split
  · split
    · split
      · exact (by decide : 1 ≤ 2)
      · exact (by decide : 0 ≤ 2)
    · split
      · exact (by decide : 2 ≤ 2)
      · exact (by decide : 1 ≤ 2)
  · exact (by decide : 0 ≤ 2)
theorem cal_tb {cI C fI D : Addr} {fdI : FuncData} (T : Txt K mg cA0 PA0 cA1 PA1) (TB0 : LamX.TabB base mg cA0 PA0) (TB1 : LamX.TabB base mg cA1 PA1) (eI : ErrC K mg "InvalidAutomaton" cI) (PC : AutC K C) (PD : ParC K D) (hM : Mk K C fI) (gC : mg "Automaton" = some (.ref C)) (F0 : L2.Fun K "__init__" "Automaton.__init__" s_Automaton_init fI fdI) (hB : Binds K fdI ["self", "letters", "initial", "accepting", "rows"] []) : C8.Cal P w K mg base 6 "to_buchi" (spTb C D PA0 PA1) [] := by
  have C_built_automaton : C8.Cal P w K mg base 5 "built_automaton" (spBu P w K mg base 2 C PA0 PA1) [] := cal_bu (Nat.le_refl _) T TB0 eI PC hM gC F0 hB
  have C_trim : C8.Cal P w K mg base 5 "trim" (spTrim C) [] := cal_trim T eI PC hM gC F0 hB
  obtain ⟨f, fd, F, hm, hb⟩ := T.h_to_buchi.ex
  refine ⟨f, fd, _, [], F.ok sc_to_buchi (fun vs H Q E h => ?_) (fun A outer s H vs Q E hr h => ?_), hm, F.kp, hb, .nil⟩
  · obtain ⟨x, L, s, ps, rows, m, rfl, _⟩ := h
    rfl
  · obtain ⟨x, L, st, ps, rows, m, rfl, hP, V1, hpm, hul, hL, hrl, hTb, q⟩ := h
    refine ⟨_, (pss_cons
      (Clo.ps_nd (T := TbT PA0 PA1) (i := 1) (sc := defScope s_to_buchi) TB1 (st := sn_to_buchi_moves) rfl rfl TbT_mem1 rfl (TbT_u1 T.pn) rfl (by decide +kernel) rfl rfl rfl sc_to_buchi.nd rfl (.inl rfl) (by first | exact .inl rfl | exact .inr rfl))
      (pss_cons
      (Clo.ps_nd (T := TbT PA0 PA1) (i := 2) (sc := defScope s_to_buchi) TB1 (st := sn_to_buchi_accepting) rfl rfl TbT_mem1 rfl (TbT_u1 T.pn) rfl (by decide +kernel) rfl rfl rfl sc_to_buchi.nd rfl (.inl rfl) (by first | exact .inl rfl | exact .inr rfl))
      (pss_one
      (ps_ret (C8.pe_c C_trim hr (by decide) (by rfl) (pa_cons (Clo.pe_cAdd (fun ok => Clo.Own.app ((fun ok => Clo.Own.made2 (scope := C8.fnScope sn_to_buchi_moves) (sc := defScope s_to_buchi) rfl (fun _ => rfl) (by decide +kernel) ok) ok) ((fun ok => Clo.Own.made2 (scope := C8.fnScope sn_to_buchi_accepting) (sc := defScope s_to_buchi) rfl (fun _ => rfl) (by decide +kernel) ok) ok)) C_built_automaton hr (by decide) (by rfl) (pa_cons (pe_fld (pv 0) rfl) (pa_cons (pe_lst (pa_cons (pe_tup (pa_cons (pe_fld (pv 0) rfl) (pa_cons (pe_un un_neg pe_int) pa_nil))) pa_nil)) (pa_cons (pv 1) (pa_cons (pv 2) pa_nil))))) pa_nil)))))), ?_⟩
    refine ⟨hTb, fun fm cm H4 x4 nn4 hTb4 fm0 fm4 cm4 => ?_⟩
    refine ⟨hTb4, fun fc cc H5 x5 nn5 hTb5 fc0 fc5 cc5 => ?_⟩
    have x05 := ext_trans x4 x5
    have hP5 := par_ext x05 hP
    have fm5 := x5 _ _ fm4 (by intro ps z; unfold NdefX.FnO at z; cases z)
    have cm5 := x5 _ _ cm4 (by intro ps z; unfold LamX.CodeO at z; cases z)
    clear x4 nn4 hTb4 fm0 fm4 cm4 x5 nn5 fc0
    obtain ⟨dx, pt, rt, as, e1, e2, e3, e4⟩ := id hP5
    refine ⟨_, rfl, x, D, dx, _, _, rfl, e1, PD.cl, PD.nL, pf_L _ _ _ _, _, rfl, x, D, dx, _, _, rfl, e1, PD.cl, PD.nS, pf_s _ _ _ _, _, rfl, by show 2 ≤ sizeLine; decide, fun p np => ?_⟩
    generalize hX : upd H5 p _ = H6; obtain ⟨sH6, ep⟩ := nw np hX; clear hX
    refine ⟨by show 1 ≤ sizeLine; decide, fun D2 nD2 => ?_⟩
    generalize hX : upd H6 D2 _ = H7; obtain ⟨sH7, eD2⟩ := nw nD2 hX; clear hX
    have s57 := sH6.trans sH7
    have hP7 := par_ko (.of (ext_of s57)) hP5
    have x07 := ext_trans x05 (ext_of s57)
    have fm7 := s57 _ _ fm5
    have cm7 := s57 _ _ cm5
    have fc7 := s57 _ _ fc5
    have cc7 := s57 _ _ cc5
    have hTb7 := hTb5.ext s57
    have hT7 : Tps H7 [p] [[st, -1]] := ⟨rfl, fun j b hb => by
      cases j with
      | zero =>
        obtain rfl := Option.some.inj hb
        exact ⟨_, rfl, sH7 _ _ ep⟩
      | succ j => (cases hb)⟩
    clear s57 x05 hP5 fm5 cm5 fc5 cc5 hTb5 e1 e2 e3 e4 sH6 sH7 np nD2 ep hTb
    have frm : ∀ {cells : List (Str × Addr)}, ∀ p ∈ cloFrom cells (C8.fnScope sn_to_buchi_moves).names [], p.1 = "parity" := fun {cells} p hp => by
      rcases cloFrom_mem (n := p.1) (c := p.2) hp with z | ⟨z, _⟩
      · cases z
      · have := sc_to_buchi_moves.free _ z rfl
        simpa using this
    have frc : ∀ {cells : List (Str × Addr)}, ∀ p ∈ cloFrom cells (C8.fnScope sn_to_buchi_accepting).names [], p.1 = "parity" := fun {cells} p hp => by
      rcases cloFrom_mem (n := p.1) (c := p.2) hp with z | ⟨z, _⟩
      · cases z
      · have := sc_to_buchi_accepting.free _ z rfl
        simpa using this
    refine ⟨_, rfl, _, rfl, fun _ => .ref x, fun p hp => ?_, fun g os inj hg nA => ?_⟩
    · rcases List.mem_append.mp hp with hp | hp
      · have e := frm p hp
        exact ⟨0, by rw [e]; rfl, rfl⟩
      · have e := frc p hp
        exact ⟨0, by rw [e]; rfl, rfl⟩
    have keep7 := Clo.add_keep (g := g) (os := os) nA
    have hC1 := Clo.cel_of (F := NdefX.NF.of sn_to_buchi_moves "moves" ("to_buchi" ++ ".<locals>." ++ "moves") (cloFrom _ (C8.fnScope sn_to_buchi_moves).names []) cm) (fr := ["parity"]) (gn := fun _ => V.ref x) (os := os) (H := H7) rfl (by decide) (fun p hp => List.mem_append_left _ hp) inj hg
    have hC2 := Clo.cel_of (F := NdefX.NF.of sn_to_buchi_accepting "accepting" ("to_buchi" ++ ".<locals>." ++ "accepting") (cloFrom _ (C8.fnScope sn_to_buchi_accepting).names []) cc) (fr := ["parity"]) (gn := fun _ => V.ref x) (os := os) (H := H7) rfl (by decide) (fun p hp => List.mem_append_right _ hp) inj hg
    refine ⟨L, D2, fm, fc, [p], [[st, -1]], unP rows.length m, mvP rows ps, acP ps, rfl, V1.1, by omega, keep7 _ _ eD2, hT7.same fun b xs e => keep7 _ _ e, by simp, ?_, mvP_cl V1 hpm, by rw [unP_len]; exact hul, mvP_len rows ps, ⟨_, _, _, _, spMvP D, 2, keep7 _ _ fm7, keep7 _ _ cm7, hC1, Nat.le_refl _, ok_mvP T PD, ?_⟩, ⟨_, _, _, _, spAcP D, 1, keep7 _ _ fc7, keep7 _ _ cc7, hC2, by decide, ok_acP T PD, ?_⟩, hTb7.ext keep7, fun hk => by (cases hk), fun hk H8 z ns ini acc c x8 hTb8 hBu A8 => ?_⟩
    · intro k hk
      rw [List.mem_singleton.mp hk]
      have := V1.2.2.2.1
      exact mem_unP.mpr ⟨st.toNat, -1, by omega, by omega, by omega, by rw [Int.toNat_of_nonneg this.1]⟩
    · intro H' a u z Q' xx hu hz0 hz1 ha hq
      have hC' := cel_ext hC1 xx
      have k7 := ko_cel hC' (ext_trans (ext_of keep7) xx)
      refine ⟨x, a, L, st, z, ps, rows, m, u, rfl, rfl, par_ko k7 hP7, V1, hpm, hrl, hu, hC'.keep ha (by intro _ _ z; cases z), hz0, hz1, fun H8 l2 ts s8 nl el hT8 gone => ?_⟩
      refine hq _ l2 ts (hC'.back s8) ?_ (Clo.back_new gone el) (hT8.same fun b xs e => Clo.back_new gone e)
      rwa [Clo.rem_out fun z => by rw [gone _ z] at el; cases el] at nl
    · intro H' a u Q' xx hu ha hq
      have hC' := cel_ext hC2 xx
      have k7 := ko_cel hC' (ext_trans (ext_of keep7) xx)
      exact ⟨x, a, L, st, ps, rows, m, u, rfl, rfl, par_ko k7 hP7, V1, hu, hC'.keep ha (by intro _ _ z; cases z), fun H8 s8 gone => hq _ (hC'.back s8)⟩
    · have frz := frz_ext x8
      have A9 := aut_ko (ko_rem frz) A8
      have x09 := ext_trans x07 (ext_rem nA x8)
      have hTb9 := tabs_rem frz hTb8
      have hcl : c.length ≤ 1000 := by
        refine Nat.le_trans (bu_len hBu (U := unP rows.length m) ?_ (mvP_cl V1 hpm)) (by rw [unP_len]; exact hul)
        intro k hk
        rw [List.mem_singleton.mp hk]
        have := V1.2.2.2.1
        exact mem_unP.mpr ⟨st.toNat, -1, by omega, by omega, by omega, by rw [Int.toNat_of_nonneg this.1]⟩
      exact ⟨z, L, ini, acc, c, rfl, A9, hBu.vld, hcl, by omega, bu_row hBu (mvP_len2 rows ps) hL, fun H10 y us s10 hU A10 => q H10 y ns ini acc c us (ext_trans x09 (ext_of s10)) (hTb9.ext s10) hBu hU A10⟩
theorem rc_walk {L : Int} {ini acc : List Int} {c : List (List (List Int))} {π : Nat → Nat} {wd : Nat → Int} (hV : VldB L ini acc c) (ht : ∀ i, tr c (π i) (wd i) (π (i + 1))) : ∀ d i, Gr.Rc (gph c) (π i) (π (i + d))
  | 0, i => .refl _
  | d + 1, i => by
    have h := rc_walk hV ht d (i + 1)
    rw [show i + 1 + d = i + (d + 1) by omega] at h
    obtain ⟨r, e, h1, h2, h3⟩ := ht i
    exact .step ((gph_E hV _ _).mpr ⟨r, e, h1, List.mem_of_getElem? h2, h3⟩) h
theorem tr_lt2 {L : Int} {ini acc : List Int} {c : List (List (List Int))} {s t : Nat} {a : Int} (hV : VldB L ini acc c) (h : tr c s a t) : s < c.length ∧ t < c.length := by
  obtain ⟨r, e, h1, h2, h3⟩ := h
  have := ((hV.2.2.2.2 r (List.mem_of_getElem? h1)).2 e (List.mem_of_getElem? h2)).2 _ h3
  exact ⟨lt_of_get h1, by omega⟩
theorem run_useful {L : Int} {ini acc : List Int} {c : List (List (List Int))} {π : Nat → Nat} {wd : Nat → Int} (hV : VldB L ini acc c) (h0 : ((π 0 : Nat) : Int) ∈ ini) (ht : ∀ i, tr c (π i) (wd i) (π (i + 1))) (hf : ∀ i, ∃ j, i < j ∧ ((π j : Nat) : Int) ∈ acc) (i : Nat) : π i < c.length ∧ Useful c ini acc (π i) := by
  have hlt : ∀ i, π i < c.length := fun i => (tr_lt2 hV (ht i)).1
  obtain ⟨nx, hnx⟩ := Classical.axiomOfChoice hf
  let J : Nat → Nat := fun k => Nat.rec (motive := fun _ => Nat) (nx i) (fun _ j => nx j) k
  have J0 : J 0 = nx i := rfl
  have JS : ∀ k, J (k + 1) = nx (J k) := fun k => rfl
  have Jlt : ∀ k, J k < J (k + 1) := fun k => by rw [JS]; exact (hnx _).1
  have Jmono : ∀ d k, J k ≤ J (k + d) := fun d => by
    induction d with
    | zero => exact fun k => Nat.le_refl _
    | succ d ih => exact fun k => Nat.le_trans (ih k) (Nat.le_of_lt (Jlt _))
  have Ji : ∀ k, i < J k := fun k => by
    have := Jmono k 0
    rw [Nat.zero_add, J0] at this
    have := (hnx i).1
    omega
  have Jacc : ∀ k, ((π (J k) : Nat) : Int) ∈ acc := fun k => by
    cases k with
    | zero => exact (hnx i).2
    | succ k => rw [JS]; exact (hnx _).2
  have dup : ∃ k k', k < k' ∧ π (J k) = π (J k') := by
    refine Classical.byContradiction fun hno => ?_
    have nd : ((List.range (c.length + 1)).map fun k => π (J k)).Nodup := by
      rw [List.nodup_iff_pairwise_ne, List.pairwise_map]
      exact List.pairwise_lt_range.imp fun {a b} hab e => hno ⟨a, b, hab, e⟩
    have := nd_len nd fun x hx => by
      obtain ⟨k, _, rfl⟩ := List.mem_map.mp hx
      exact hlt _
    rw [List.length_map, List.length_range] at this
    omega
  obtain ⟨k, k', hk, e⟩ := dup
  have walk := rc_walk hV ht
  have hj : J k < J k' := by
    have := Jmono (k' - (k + 1)) (k + 1)
    rw [show k + 1 + (k' - (k + 1)) = k' by omega] at this
    have := Jlt k
    omega
  refine ⟨hlt i, ⟨π 0, h0, by have := walk i 0; rwa [Nat.zero_add] at this⟩, π (J k), Jacc k, ?_, ?_⟩
  · obtain ⟨r, e1, h1, h2, h3⟩ := ht (J k)
    refine ⟨π (J k + 1), (gph_E hV _ _).mpr ⟨r, e1, h1, List.mem_of_getElem? h2, h3⟩, ?_⟩
    have := walk (J k' - (J k + 1)) (J k + 1)
    rw [show J k + 1 + (J k' - (J k + 1)) = J k' by omega, ← e] at this
    exact this
  · have := walk (J k - i) i
    rwa [show i + (J k - i) = J k by have := Ji k; omega] at this
theorem trim_run {L : Int} {ini acc : List Int} {c : List (List (List Int))} {us : List Nat} {wd : Nat → Int} (hV : VldB L ini acc c) (hU : Us c ini acc us) : Run (trmC L us c) (ren us ini) (ren us acc) wd ↔ Run c ini acc wd := by
  by_cases hne : us = []
  · subst hne
    have h0 : ∀ xs, ren [] xs = [] := fun xs => by unfold ren; simp
    constructor
    · rintro ⟨π, h, _⟩
      rw [h0] at h
      cases h
    · rintro ⟨π, h, ht, hf⟩
      have := (hU.mem _).mpr (run_useful hV h ht hf 0)
      cases this
  have htc : trmC L us c = us.map fun u => (c.getD u []).map (ren us) := by unfold trmC; rw [if_neg hne]
  rw [htc]
  constructor
  · rintro ⟨π, h0, ht, hf⟩
    have hlt : ∀ i, π i < us.length := fun i => by
      obtain ⟨r, e, h1, _⟩ := ht i
      have := lt_of_get h1
      rwa [List.length_map] at this
    have hg : ∀ i, us[π i]? = some (us.getD (π i) 0) := fun i => by
      rw [List.getD_eq_getElem?_getD, List.getElem?_eq_getElem (hlt i)]; rfl
    have of_idx : ∀ {i u : Nat}, u ∈ us → π i = us.idxOf u → us.getD (π i) 0 = u := fun {i u} hu e => by
      rw [e, List.getD_eq_getElem?_getD, idx_get hu]; rfl
    refine ⟨fun i => us.getD (π i) 0, ?_, fun i => ?_, fun i => ?_⟩
    · obtain ⟨z, hz, hzu, e⟩ := mem_ren.mp h0
      have := of_idx (i := 0) hzu (by omega)
      show ((us.getD (π 0) 0 : Nat) : Int) ∈ ini
      rw [this, Int.toNat_of_nonneg (hV.2.2.1.2 z hz).1]
      exact hz
    · obtain ⟨r', e', h1, h2, h3⟩ := ht i
      rw [List.getElem?_map, hg i] at h1
      obtain rfl := Option.some.inj h1
      have huc := ((hU.mem _).mp (List.mem_of_getElem? (hg i))).1
      obtain ⟨r, hr, hr2⟩ := getD_of huc
      have h2 : ((c.getD (us.getD (π i) 0) []).map (ren us))[(wd i).toNat]? = some e' := h2
      rw [hr2, List.getElem?_map] at h2
      cases he : r[(wd i).toNat]? with
      | none => rw [he] at h2; cases h2
      | some e =>
        rw [he] at h2
        obtain rfl := Option.some.inj h2
        obtain ⟨z, hz, hzu, e2⟩ := mem_ren.mp h3
        have := of_idx (i := i + 1) hzu (by omega)
        refine ⟨r, e, hr, he, ?_⟩
        show ((us.getD (π (i + 1)) 0 : Nat) : Int) ∈ e
        rw [this, Int.toNat_of_nonneg (((hV.2.2.2.2 r (List.mem_of_getElem? hr)).2 e (List.mem_of_getElem? he)).2 z hz).1]
        exact hz
    · obtain ⟨j, hj, ha⟩ := hf i
      obtain ⟨z, hz, hzu, e⟩ := mem_ren.mp ha
      have := of_idx (i := j) hzu (by omega)
      refine ⟨j, hj, ?_⟩
      show ((us.getD (π j) 0 : Nat) : Int) ∈ acc
      rw [this, Int.toNat_of_nonneg (hV.2.2.2.1.2 z hz).1]
      exact hz
  · rintro ⟨π, h0, ht, hf⟩
    have hu : ∀ i, π i ∈ us := fun i => (hU.mem _).mpr (run_useful hV h0 ht hf i)
    refine ⟨fun i => us.idxOf (π i), mem_ren.mpr ⟨_, h0, by rw [Int.toNat_natCast]; exact hu 0, by rw [Int.toNat_natCast]⟩, fun i => ?_, fun i => ?_⟩
    · obtain ⟨r, e, h1, h2, h3⟩ := ht i
      refine ⟨r.map (ren us), ren us e, ?_, by rw [List.getElem?_map, h2]; rfl, mem_ren.mpr ⟨_, h3, by rw [Int.toNat_natCast]; exact hu (i + 1), by rw [Int.toNat_natCast]⟩⟩
      rw [List.getElem?_map, idx_get (hu i)]
      show some ((c.getD (π i) []).map (ren us)) = _
      rw [List.getD_eq_getElem?_getD, h1]; rfl
    · obtain ⟨j, hj, ha⟩ := hf i
      exact ⟨j, hj, mem_ren.mpr ⟨_, ha, by rw [Int.toNat_natCast]; exact hu j, by rw [Int.toNat_natCast]⟩⟩
theorem trm_len {L : Int} {ini acc : List Int} {c : List (List (List Int))} {us : List Nat} (hU : Us c ini acc us) (hc : c ≠ []) : (trmC L us c).length ≤ c.length := by
  unfold trmC
  split
  · exact List.length_pos_iff.mpr hc
  · rw [List.length_map]
    exact nd_len (by rw [List.nodup_iff_pairwise_ne]; exact hU.pw.imp (fun h => Nat.ne_of_lt h)) fun u hu => ((hU.mem u).mp hu).1
/-! a parity run against the guessed bound -/
/-- the states that the word passes -/
def qrn (rows : List (List Int)) (s : Int) (wd : Nat → Int) : Nat → Int
  | 0 => s
  | i + 1 => tgP rows (qrn rows s wd i) (wd i)
theorem par_prun {rows : List (List Int)} {ps : List Int} {s : Int} {wd : Nat → Int} (hp : ∀ t, 0 ≤ prP ps t) : PRun (mvP rows ps) (acP ps) [[s, -1]] wd ↔ ∃ g : Int, g % 2 = 0 ∧ (∃ k, ∀ j, k ≤ j → prP ps (qrn rows s wd j) ≤ g) ∧ ∀ k, ∃ j, k < j ∧ prP ps (qrn rows s wd j) = g := by
  constructor
  · rintro ⟨p, h0, ht, hf⟩
    have h0 := List.mem_singleton.mp h0
    have sh : ∀ i, ∃ g : Int, p i = [qrn rows s wd i, g] := fun i => by
      induction i with
      | zero => exact ⟨-1, h0⟩
      | succ i ih =>
        obtain ⟨g, e⟩ := ih
        have h := ht i
        rw [e] at h
        have h : p (i + 1) ∈ (if 0 ≤ g then (if prP ps (qrn rows s wd (i + 1)) ≤ g then [[qrn rows s wd (i + 1), g]] else []) else (if prP ps (qrn rows s wd (i + 1)) % 2 = 0 then [[qrn rows s wd (i + 1), -1], [qrn rows s wd (i + 1), prP ps (qrn rows s wd (i + 1))]] else [[qrn rows s wd (i + 1), -1]]) : List Kk) := h
        split at h
        · split at h
          · exact ⟨_, List.mem_singleton.mp h⟩
          · cases h
        · split at h
          · rcases List.mem_cons.mp h with h | h
            · exact ⟨_, h⟩
            · exact ⟨_, List.mem_singleton.mp h⟩
          · exact ⟨_, List.mem_singleton.mp h⟩
    obtain ⟨G, hG⟩ := Classical.axiomOfChoice sh
    have st : ∀ i, (0 ≤ G i → prP ps (qrn rows s wd (i + 1)) ≤ G i ∧ G (i + 1) = G i) ∧ (G i < 0 → (G (i + 1) < 0 ∨ (G (i + 1) % 2 = 0 ∧ G (i + 1) = prP ps (qrn rows s wd (i + 1))))) := fun i => by
      have h := ht i
      rw [hG i, hG (i + 1)] at h
      have h : [qrn rows s wd (i + 1), G (i + 1)] ∈ (if 0 ≤ G i then (if prP ps (qrn rows s wd (i + 1)) ≤ G i then [[qrn rows s wd (i + 1), G i]] else []) else (if prP ps (qrn rows s wd (i + 1)) % 2 = 0 then [[qrn rows s wd (i + 1), -1], [qrn rows s wd (i + 1), prP ps (qrn rows s wd (i + 1))]] else [[qrn rows s wd (i + 1), -1]]) : List Kk) := h
      have inj : ∀ {a b : Int}, [qrn rows s wd (i + 1), a] = [qrn rows s wd (i + 1), b] → a = b := fun e => (List.cons.inj (List.cons.inj e).2).1
      split at h
      · rename_i c
        split at h
        · rename_i d
          have e := inj (List.mem_singleton.mp h)
          exact ⟨fun _ => ⟨d, e⟩, fun z => by omega⟩
        · cases h
      · rename_i c
        refine ⟨fun z => absurd z c, fun _ => ?_⟩
        split at h
        · rename_i d
          rcases List.mem_cons.mp h with h | h
          · have := inj h
            exact .inl (by omega)
          · have e := inj (List.mem_singleton.mp h)
            exact .inr ⟨by rw [e]; exact d, e⟩
        · have := inj (List.mem_singleton.mp h)
          exact .inl (by omega)
    have acc : ∀ j, acP ps (p j) = true ↔ prP ps (qrn rows s wd j) = G j := fun j => by
      rw [hG j]
      show decide (prP ps (qrn rows s wd j) = G j) = true ↔ _
      rw [decide_eq_true_iff]
    have even : ∀ i, 0 ≤ G i → G i % 2 = 0 := fun i => by
      induction i with
      | zero =>
        intro h
        have e := hG 0
        rw [h0] at e
        have := (List.cons.inj (List.cons.inj e).2).1
        omega
      | succ i ih =>
        intro h
        rcases Int.lt_or_le (G i) 0 with c | c
        · rcases (st i).2 c with d | d
          · omega
          · exact d.1
        · rw [((st i).1 c).2]; exact ih c
    obtain ⟨j0, _, h1⟩ := hf 0
    have h1 := (acc j0).mp h1
    have g0 : 0 ≤ G j0 := by rw [← h1]; exact hp _
    have stay : ∀ d, G (j0 + d) = G j0 := fun d => by
      induction d with
      | zero => rfl
      | succ d ih =>
        have := ((st (j0 + d)).1 (by rw [ih]; exact g0)).2
        rw [show j0 + (d + 1) = j0 + d + 1 by omega, this, ih]
    refine ⟨G j0, even j0 g0, ⟨j0, fun j hj => ?_⟩, fun k => ?_⟩
    · rcases Nat.lt_or_ge j0 j with c | c
      · have e := stay (j - 1 - j0)
        rw [show j0 + (j - 1 - j0) = j - 1 by omega] at e
        have := ((st (j - 1)).1 (by rw [e]; exact g0)).1
        rw [e, show j - 1 + 1 = j by omega] at this
        exact this
      · rw [show j = j0 by omega, h1]; exact Int.le_refl _
    · obtain ⟨j, hj, ha⟩ := hf (k + j0)
      refine ⟨j, by omega, ?_⟩
      rw [(acc j).mp ha]
      have := stay (j - j0)
      rwa [show j0 + (j - j0) = j by omega] at this
  · rintro ⟨g, hg, ⟨k, hk⟩, hi⟩
    obtain ⟨m, hm, hmg⟩ := hi k
    have hg0 : 0 ≤ g := by rw [← hmg]; exact hp _
    refine ⟨fun i => [qrn rows s wd i, if i < m then -1 else g], ?_, fun i => ?_, fun i => ?_⟩
    · show [s, if 0 < m then -1 else g] ∈ _
      rw [if_pos (by omega)]
      exact List.mem_singleton.mpr rfl
    · show [qrn rows s wd (i + 1), if i + 1 < m then -1 else g] ∈ (if 0 ≤ (if i < m then -1 else g) then (if prP ps (qrn rows s wd (i + 1)) ≤ (if i < m then -1 else g) then [[qrn rows s wd (i + 1), (if i < m then -1 else g)]] else []) else (if prP ps (qrn rows s wd (i + 1)) % 2 = 0 then [[qrn rows s wd (i + 1), -1], [qrn rows s wd (i + 1), prP ps (qrn rows s wd (i + 1))]] else [[qrn rows s wd (i + 1), -1]]) : List Kk)
      rcases Nat.lt_or_ge i m with c | c
      · rw [if_pos c, if_neg (by decide)]
        rcases Nat.lt_or_ge (i + 1) m with d | d
        · rw [if_pos d]
          split
          · exact List.mem_cons_self
          · exact List.mem_cons_self
        · rw [if_neg (show ¬ i + 1 < m by omega), show i + 1 = m by omega, hmg, if_pos hg]
          exact List.mem_cons_of_mem _ List.mem_cons_self
      · rw [if_neg (show ¬ i + 1 < m by omega), if_neg (show ¬ i < m by omega), if_pos hg0, if_pos (hk (i + 1) (by omega))]
        exact List.mem_cons_self
    · obtain ⟨j, hj, e⟩ := hi (i + m)
      refine ⟨j, by omega, ?_⟩
      show decide (prP ps (qrn rows s wd j) = if j < m then -1 else g) = true
      rw [if_neg (show ¬ j < m by omega), decide_eq_true_iff]
      exact e
/-! runs of a parity automaton: plain mathematics -/
def dl (rows : List (List Int)) (s a : Int) : Int := (rows.getD s.toNat []).getD a.toNat 0
def rdw (rows : List (List Int)) (w : List Int) (s : Int) : Int := w.foldl (dl rows) s
def vb (rows : List (List Int)) : List Int → Int → List Int
  | [], _ => []
  | a :: w, s => s :: vb rows w (dl rows s a)
def va (rows : List (List Int)) : List Int → Int → List Int
  | [], _ => []
  | a :: w, s => dl rows s a :: va rows w (dl rows s a)
def orb (rows : List (List Int)) (w : List Int) (s : Int) : Nat → Int
  | 0 => s
  | i + 1 => rdw rows w (orb rows w s i)
def pri (ps : List Int) (x : Int) : Int := ps.getD x.toNat 0
section
variable {rows : List (List Int)} {ps w : List Int} {s : Int}
theorem rdw_append (u v : List Int) : rdw rows (u ++ v) s = rdw rows v (rdw rows u s) := List.foldl_append
theorem rdw_snoc {i : Nat} {a : Int} (h : w[i]? = some a) : rdw rows (w.take (i + 1)) s = dl rows (rdw rows (w.take i) s) a := by
  rw [take_get h, rdw_append]
  rfl
theorem vb_append : ∀ (u v : List Int) (s : Int), vb rows (u ++ v) s = vb rows u s ++ vb rows v (rdw rows u s)
  | [], _, _ => rfl
  | a :: u, v, s => by
    show s :: vb rows (u ++ v) (dl rows s a) = s :: (vb rows u (dl rows s a) ++ vb rows v (rdw rows u (dl rows s a)))
    rw [vb_append u v]
theorem va_append : ∀ (u v : List Int) (s : Int), va rows (u ++ v) s = va rows u s ++ va rows v (rdw rows u s)
  | [], _, _ => rfl
  | a :: u, v, s => by
    show dl rows s a :: va rows (u ++ v) (dl rows s a) = dl rows s a :: (va rows u (dl rows s a) ++ va rows v (rdw rows u (dl rows s a)))
    rw [va_append u v]
theorem vb_snoc {i : Nat} {a : Int} (h : w[i]? = some a) : vb rows (w.take (i + 1)) s = vb rows (w.take i) s ++ [rdw rows (w.take i) s] := by
  rw [take_get h, vb_append]
  rfl
theorem va_snoc {i : Nat} {a : Int} (h : w[i]? = some a) : va rows (w.take (i + 1)) s = va rows (w.take i) s ++ [dl rows (rdw rows (w.take i) s) a] := by
  rw [take_get h, va_append]
  rfl
theorem vb_va : ∀ {w : List Int} {s x : Int}, x ∈ vb rows w s → x = s ∨ x ∈ va rows w s
  | [], _, _, h => by simp [vb] at h
  | a :: w, s, x, h => by
    rcases List.mem_cons.mp h with z | z
    · exact .inl z
    · rcases vb_va z with y | y
      · exact .inr (by rw [y]; exact List.mem_cons_self)
      · exact .inr (List.mem_cons_of_mem _ y)
theorem va_vb : ∀ {w : List Int} {s x : Int}, x ∈ va rows w s → x ∈ vb rows w s ∨ x = rdw rows w s
  | [], _, _, h => by simp [va] at h
  | [a], s, x, h => by
    rcases List.mem_cons.mp h with z | z
    · exact .inr z
    · simp [va] at z
  | a :: b :: w, s, x, h => by
    rcases List.mem_cons.mp h with z | z
    · exact .inl (List.mem_cons_of_mem _ (by rw [z]; exact List.mem_cons_self))
    · rcases va_vb (w := b :: w) z with y | y
      · exact .inl (List.mem_cons_of_mem _ y)
      · exact .inr y
theorem va_last : ∀ {w : List Int} {s : Int}, w ≠ [] → rdw rows w s ∈ va rows w s
  | [], _, h => absurd rfl h
  | [a], s, _ => List.mem_cons_self
  | a :: b :: w, s, _ => List.mem_cons_of_mem _ (va_last (w := b :: w) (by simp))
theorem vb_head {w : List Int} {s : Int} (h : w ≠ []) : s ∈ vb rows w s := by
  cases w with
  | nil => exact absurd rfl h
  | cons a w => exact List.mem_cons_self
structure Bst (rows : List (List Int)) (ps w : List Int) (s b : Int) : Prop where
  up : ∃ k, ∀ j, k ≤ j → ∀ x ∈ vb rows w (orb rows w s j), pri ps x ≤ b
  at_ : ∃ x, pri ps x = b ∧ ∀ k, ∃ j, k ≤ j ∧ x ∈ vb rows w (orb rows w s j)
theorem Bst.le {b c : Int} (h : Bst rows ps w s b) (g : Bst rows ps w s c) : b ≤ c := by
  obtain ⟨k, hk⟩ := g.up
  obtain ⟨x, hx, hi⟩ := h.at_
  obtain ⟨j, hj, hm⟩ := hi k
  rw [← hx]
  exact hk j hj x hm
theorem Bst.uniq {b c : Int} (h : Bst rows ps w s b) (g : Bst rows ps w s c) : b = c := Int.le_antisymm (h.le g) (g.le h)
theorem orb_per {m p : Nat} (h : orb rows w s (m + p) = orb rows w s m) : ∀ j, m ≤ j → orb rows w s (j + p) = orb rows w s j := by
  intro j hj
  obtain ⟨d, rfl⟩ : ∃ d, j = m + d := ⟨j - m, by omega⟩
  clear hj
  induction d with
  | zero => exact h
  | succ d ih =>
    rw [show m + (d + 1) + p = (m + d + p) + 1 by omega]
    show rdw rows w (orb rows w s (m + d + p)) = rdw rows w (orb rows w s (m + d))
    rw [ih]
theorem orb_mul {m p : Nat} (h : orb rows w s (m + p) = orb rows w s m) (j k : Nat) (hj : m ≤ j) : orb rows w s (j + k * p) = orb rows w s j := by
  induction k with
  | zero => rw [Nat.zero_mul, Nat.add_zero]
  | succ k ih => rw [Nat.succ_mul, ← Nat.add_assoc, orb_per h _ (by omega), ih]
/-- later turns come back to p turns from i on -/
theorem orb_back {m p i : Nat} (h : orb rows w s (m + p) = orb rows w s m) (hp : 0 < p) (hi : m ≤ i) (j : Nat) (hj : i ≤ j) : ∃ r, i ≤ r ∧ r < i + p ∧ orb rows w s j = orb rows w s r := by
  refine ⟨i + (j - i) % p, by omega, by have := Nat.mod_lt (j - i) hp; omega, ?_⟩
  have e : j = (i + (j - i) % p) + ((j - i) / p) * p := by
    have := Nat.mod_add_div (j - i) p
    rw [Nat.mul_comm] at this
    omega
  conv => lhs; rw [e]
  exact orb_mul h _ _ (by omega)
/-- by the rounds m .. N - 1, where round N begins as round m -/
theorem bst_prog {m N : Nat} {b : Int} {gs : List Int} (hmN : m < N) (h : orb rows w s N = orb rows w s m) (hl : gs.length = N)
    (hg : ∀ j g, gs[j]? = some g → (∀ x ∈ vb rows w (orb rows w s j), pri ps x ≤ g) ∧ ∃ x ∈ vb rows w (orb rows w s j), pri ps x = g)
    (hb : b ∈ gs.drop m) (hmax : ∀ y ∈ gs.drop m, y ≤ b) : Bst rows ps w s b := by
  have h' : orb rows w s (m + (N - m)) = orb rows w s m := by rw [Nat.add_sub_cancel' (by omega)]; exact h
  constructor
  · refine ⟨m, fun j hj x hx => ?_⟩
    obtain ⟨r, r1, r2, r3⟩ := orb_back h' (by omega) (Nat.le_refl m) j hj
    rw [r3] at hx
    obtain ⟨g, hgr⟩ : ∃ g, gs[r]? = some g := ⟨_, List.getElem?_eq_getElem (by omega)⟩
    have h1 := (hg r g hgr).1 x hx
    have h2 := hmax g (List.mem_of_getElem? (i := r - m) (by rw [List.getElem?_drop, Nat.add_sub_cancel' r1]; exact hgr))
    omega
  · obtain ⟨i, hi⟩ := List.mem_iff_getElem?.mp hb
    rw [List.getElem?_drop] at hi
    obtain ⟨x, hx, hp⟩ := (hg _ _ hi).2
    refine ⟨x, hp, fun k => ⟨(m + i) + k * (N - m), ?_, ?_⟩⟩
    · have : k ≤ k * (N - m) := Nat.le_mul_of_pos_right k (by omega)
      omega
    · rw [orb_mul h' _ _ (by omega)]
      exact hx
theorem nodup_le : ∀ (n : Nat) (l : List Nat), l.Nodup → (∀ x ∈ l, x < n) → l.length ≤ n
  | 0, l, _, h => by
    cases l with
    | nil => exact Nat.le_refl _
    | cons a l => exact absurd (h a List.mem_cons_self) (Nat.not_lt_zero _)
  | n + 1, l, hd, h => by
    by_cases c : n ∈ l
    · have := nodup_le n (l.erase n) (hd.erase n) fun x hx => by
        have h1 := (hd.mem_erase_iff).mp hx
        have h2 := h x h1.2
        have := h1.1
        omega
      rw [List.length_erase_of_mem c] at this
      omega
    · have := nodup_le n l hd fun x hx => by
        have h2 := h x hx
        have : x ≠ n := fun z => c (by rw [← z]; exact hx)
        omega
      omega
theorem orb_nodup_le {n N : Nat} (hr : ∀ i, 0 ≤ orb rows w s i ∧ orb rows w s i < (n : Int)) (hd : ∀ i j, i < j → j < N → orb rows w s i ≠ orb rows w s j) : N ≤ n := by
  have h := nodup_le n ((List.range N).map fun i => (orb rows w s i).toNat) (by
    unfold List.Nodup
    rw [List.pairwise_map]
    refine List.Pairwise.imp_of_mem (R := fun a b => a < b) (fun {a b} ha hb hab => ?_) List.pairwise_lt_range
    have h1 := hr a
    have h2 := hr b
    have h3 := hd a b hab (List.mem_range.mp hb)
    omega) (fun x hx => by
    obtain ⟨i, hi, rfl⟩ := List.mem_map.mp hx
    have := hr i
    omega)
  rw [List.length_map, List.length_range] at h
  exact h
theorem orb_pigeon {n : Nat} (hr : ∀ i, 0 ≤ orb rows w s i ∧ orb rows w s i < (n : Int)) : ∃ m N, m < N ∧ N ≤ n ∧ orb rows w s N = orb rows w s m := by
  by_cases c : ∃ m N, m < N ∧ N ≤ n ∧ orb rows w s N = orb rows w s m
  · exact c
  · exfalso
    have := orb_nodup_le (N := n + 1) hr fun i j hij hj e => c ⟨i, j, hij, by omega, e.symm⟩
    omega
theorem pri_nonneg (h : ∀ p ∈ ps, 0 ≤ p) (x : Int) : 0 ≤ pri ps x := by
  unfold pri
  rw [List.getD_eq_getElem?_getD]
  cases e : ps[x.toNat]? with
  | none => exact Int.le_refl 0
  | some y => exact h y (List.mem_of_getElem? e)
/-- by n rounds after n rounds, priorities behind each letter -/
theorem bst_law {n : Nat} {b : Int} (hn : 0 < n) (hw : w ≠ []) (hr : ∀ i, 0 ≤ orb rows w s i ∧ orb rows w s i < (n : Int)) (hp : ∀ p ∈ ps, 0 ≤ p)
    (hup : ∀ i, n ≤ i → i < n + n → ∀ x ∈ va rows w (orb rows w s i), pri ps x ≤ b) (h0 : b = 0 ∨ ∃ i x, n ≤ i ∧ x ∈ va rows w (orb rows w s i) ∧ pri ps x = b) : Bst rows ps w s b := by
  obtain ⟨m, N, hmN, hNn, h⟩ := orb_pigeon hr
  have h' : orb rows w s (m + (N - m)) = orb rows w s m := by rw [Nat.add_sub_cancel' (by omega)]; exact h
  have hva : ∀ i, n ≤ i → ∀ x ∈ va rows w (orb rows w s i), pri ps x ≤ b := fun i hi x hx => by
    obtain ⟨r, r1, r2, r3⟩ := orb_back h' (by omega) (show m ≤ n by omega) i hi
    rw [r3] at hx
    exact hup r r1 (by omega) x hx
  have inf : ∀ i x, n ≤ i → x ∈ va rows w (orb rows w s i) → ∀ k, ∃ j, k ≤ j ∧ x ∈ vb rows w (orb rows w s j) := fun i x hi hx k => by
    have step : ∀ i, n ≤ i → x ∈ vb rows w (orb rows w s i) → ∃ j, k ≤ j ∧ x ∈ vb rows w (orb rows w s j) := fun i hi hx => by
      refine ⟨i + k * (N - m), ?_, ?_⟩
      · have : k ≤ k * (N - m) := Nat.le_mul_of_pos_right k (by omega)
        omega
      · rw [orb_mul h' _ _ (by omega)]
        exact hx
    rcases va_vb hx with y | y
    · exact step i hi y
    · refine step (i + 1) (by omega) ?_
      rw [y]
      exact vb_head hw
  constructor
  · refine ⟨n + 1, fun j hj x hx => ?_⟩
    rcases vb_va hx with y | y
    · obtain ⟨i, rfl⟩ : ∃ i, j = i + 1 := ⟨j - 1, by omega⟩
      refine hva i (by omega) x ?_
      rw [y]
      exact va_last hw
    · exact hva j (by omega) x y
  · rcases h0 with z | ⟨i, x, hi, hx, e⟩
    · have l1 := va_last (rows := rows) (s := orb rows w s n) hw
      have l2 := hva n (Nat.le_refl _) _ l1
      have l3 := pri_nonneg hp (rdw rows w (orb rows w s n))
      exact ⟨_, by omega, inf n _ (Nat.le_refl _) l1⟩
    · exact ⟨x, e, inf i x hi hx⟩
theorem pri_up {n : Nat} (hl : ps.length = n) {x : Int} (h0 : 0 ≤ x) (h : x < (n : Int)) : pri (ps.map (· + 1)) x = pri ps x + 1 := by
  unfold pri
  have hx : x.toNat < ps.length := by omega
  rw [List.getD_eq_getElem?_getD, List.getD_eq_getElem?_getD, List.getElem?_map, List.getElem?_eq_getElem hx]
  rfl
theorem vb_range {n : Nat} {L : Int} (hd : ∀ s a, 0 ≤ s → s < (n : Int) → 0 ≤ a → a < L → 0 ≤ dl rows s a ∧ dl rows s a < (n : Int)) : ∀ {w : List Int} {s : Int}, (∀ a ∈ w, 0 ≤ a ∧ a < L) → 0 ≤ s → s < (n : Int) → (∀ x ∈ vb rows w s, 0 ≤ x ∧ x < (n : Int)) ∧ (0 ≤ rdw rows w s ∧ rdw rows w s < (n : Int))
  | [], s, _, h0, h1 => ⟨by simp [vb], h0, h1⟩
  | a :: w, s, hw, h0, h1 => by
    have ha := hw a List.mem_cons_self
    have hs := hd s a h0 h1 ha.1 ha.2
    have ih := vb_range hd (w := w) (fun b hb => hw b (List.mem_cons_of_mem _ hb)) hs.1 hs.2
    refine ⟨fun x hx => ?_, ih.2⟩
    rcases List.mem_cons.mp hx with z | z
    · rw [z]; exact ⟨h0, h1⟩
    · exact ih.1 x z
theorem orb_range {n : Nat} {L : Int} (hd : ∀ s a, 0 ≤ s → s < (n : Int) → 0 ≤ a → a < L → 0 ≤ dl rows s a ∧ dl rows s a < (n : Int)) (hw : ∀ a ∈ w, 0 ≤ a ∧ a < L) (h0 : 0 ≤ s) (h1 : s < (n : Int)) : ∀ i, 0 ≤ orb rows w s i ∧ orb rows w s i < (n : Int)
  | 0 => ⟨h0, h1⟩
  | i + 1 => (vb_range hd hw (orb_range hd hw h0 h1 i).1 (orb_range hd hw h0 h1 i).2).2
/-- one more on every priority -/
theorem Bst.up1 {n : Nat} {b : Int} (hl : ps.length = n) (hr : ∀ i, ∀ x ∈ vb rows w (orb rows w s i), 0 ≤ x ∧ x < (n : Int)) (h : Bst rows ps w s b) : Bst rows (ps.map (· + 1)) w s (b + 1) := by
  obtain ⟨k, hk⟩ := h.up
  obtain ⟨x, hx, hi⟩ := h.at_
  refine ⟨⟨k, fun j hj y hy => ?_⟩, x, ?_, hi⟩
  · rw [pri_up hl (hr j y hy).1 (hr j y hy).2]
    have := hk j hj y hy
    omega
  · obtain ⟨j, _, hm⟩ := hi 0
    rw [pri_up hl (hr j x hm).1 (hr j x hm).2, hx]
theorem dl_ok {L st : Int} (hv : Vld L st ps rows) {s a : Int} (h0 : 0 ≤ s) (h1 : s < (rows.length : Int)) (h2 : 0 ≤ a) (h3 : a < L) : 0 ≤ dl rows s a ∧ dl rows s a < (rows.length : Int) := by
  have hs : s.toNat < rows.length := by omega
  have hm : rows[s.toNat] ∈ rows := List.getElem_mem hs
  obtain ⟨r1, r2⟩ := hv.2.2.2.2.1 _ hm
  have ha : a.toNat < rows[s.toNat].length := by omega
  unfold dl
  rw [List.getD_eq_getElem?_getD (l := rows), List.getElem?_eq_getElem hs]
  show 0 ≤ rows[s.toNat].getD a.toNat 0 ∧ rows[s.toNat].getD a.toNat 0 < (rows.length : Int)
  rw [List.getD_eq_getElem?_getD, List.getElem?_eq_getElem ha]
  exact r2 _ (List.getElem_mem ha)
end
theorem rows_at {mk : List V → HO} {H : Hp} {as : List Addr} {rows : List (List Int)} {s : Int} (h : RowsA mk H as rows) (h0 : 0 ≤ s) (h1 : s < (rows.length : Int)) : ∃ a row, atI (as.map V.ref) s = some (.ref a) ∧ H a = some (mk (row.map V.int)) ∧ rows.getD s.toNat [] = row ∧ row ∈ rows := by
  have hl := h.len
  obtain ⟨a, ha⟩ : ∃ a, as[s.toNat]? = some a := ⟨_, List.getElem?_eq_getElem (by omega)⟩
  obtain ⟨row, hr, hH⟩ := h.get ha
  refine ⟨a, row, ?_, hH, ?_, List.mem_of_getElem? hr⟩
  · rw [show s = ((s.toNat : Nat) : Int) by omega]
    exact atI_nat (by rw [List.getElem?_map, ha]; rfl)
  · rw [List.getD_eq_getElem?_getD, hr]
    rfl
theorem int_at {xs : List Int} {s : Int} (h0 : 0 ≤ s) (h1 : s < (xs.length : Int)) : atI (xs.map V.int) s = some (.int (xs.getD s.toNat 0)) := by
  have e : s = ((s.toNat : Nat) : Int) := by omega
  have := at_map (xs := xs) (j := s.toNat) (by omega)
  rw [show atI (xs.map V.int) s = atI (xs.map V.int) ((s.toNat : Nat) : Int) by rw [← e]]
  exact atI_nat this
theorem dl_at {L st : Int} {ps : List Int} {rows : List (List Int)} {mk : List V → HO} {H : Hp} {as : List Addr} (h : RowsA mk H as rows) (hv : Vld L st ps rows) {s z : Int} (h0 : 0 ≤ s) (h1 : s < (rows.length : Int)) (h2 : 0 ≤ z) (h3 : z < L) :
    ∃ (a : Addr) (row : List Int), atI (as.map V.ref) s = some (.ref a) ∧ H a = some (mk (row.map V.int)) ∧ atI (row.map V.int) z = some (.int (dl rows s z)) := by
  obtain ⟨a, row, r1, r2, r3, r4⟩ := rows_at h h0 h1
  have := (hv.2.2.2.2.1 row r4).1
  refine ⟨a, row, r1, r2, ?_⟩
  unfold dl
  rw [r3]
  exact int_at h2 (by omega)
def Mx (ps xs : List Int) (g : Int) : Prop := (∀ x ∈ xs, pri ps x ≤ g) ∧ ∃ x ∈ xs, pri ps x = g
/-- the greatest so far, 0 at the start -/
def Mz (ps xs : List Int) (g : Int) : Prop := 0 ≤ g ∧ (∀ x ∈ xs, pri ps x ≤ g) ∧ (g = 0 ∨ ∃ x ∈ xs, pri ps x = g)
theorem Mz.step {ps xs : List Int} {g x : Int} (h : Mz ps xs g) : Mz ps (xs ++ [x]) (if pri ps x > g then pri ps x else g) := by
  obtain ⟨h1, h2, h3⟩ := h
  by_cases c : pri ps x > g
  · rw [if_pos c]
    refine ⟨by omega, fun y hy => ?_, .inr ⟨x, by simp, rfl⟩⟩
    rcases List.mem_append.mp hy with z | z
    · have := h2 y z
      omega
    · rw [List.mem_singleton.mp z]
      exact Int.le_refl _
  · rw [if_neg c]
    refine ⟨h1, fun y hy => ?_, ?_⟩
    · rcases List.mem_append.mp hy with z | z
      · exact h2 y z
      · rw [List.mem_singleton.mp z]
        omega
    · rcases h3 with z | ⟨y, hy, z⟩
      · exact .inl z
      · exact .inr ⟨y, List.mem_append.mpr (.inl hy), z⟩
theorem Mz.mx {ps xs : List Int} {g : Int} (h : Mz ps xs g) (hn : xs ≠ []) (hp : ∀ p ∈ ps, 0 ≤ p) : Mx ps xs g := by
  obtain ⟨h1, h2, h3⟩ := h
  refine ⟨h2, ?_⟩
  rcases h3 with z | z
  · obtain ⟨x, hx⟩ := List.exists_mem_of_ne_nil xs hn
    have a1 := h2 x hx
    have a2 := pri_nonneg hp x
    exact ⟨x, hx, by omega⟩
  · exact z
def vas (rows : List (List Int)) (w : List Int) (s : Int) (n : Nat) : Nat → List Int
  | 0 => []
  | k + 1 => vas rows w s n k ++ va rows w (orb rows w s (n + k))
theorem vas_mem {rows : List (List Int)} {w : List Int} {s x : Int} {n : Nat} : ∀ {k : Nat}, x ∈ vas rows w s n k ↔ ∃ i, n ≤ i ∧ i < n + k ∧ x ∈ va rows w (orb rows w s i)
  | 0 => ⟨fun h => by simp [vas] at h, fun ⟨i, a, b, _⟩ => by omega⟩
  | k + 1 => by
    constructor
    · intro h
      rcases List.mem_append.mp h with z | z
      · obtain ⟨i, a, b, c⟩ := vas_mem.mp z
        exact ⟨i, a, by omega, c⟩
      · exact ⟨n + k, by omega, by omega, z⟩
    · rintro ⟨i, a, b, c⟩
      refine List.mem_append.mpr ?_
      by_cases z : i = n + k
      · right
        rw [← z]
        exact c
      · exact .inl (vas_mem.mpr ⟨i, a, by omega, c⟩)
def spBest : Sp := fun vs H Q _ => ∃ (pp r p : Addr) (as : List Addr) (L s : Int) (ps : List Int) (rows : List (List Int)) (h l : List Int), vs = [.int s, .ref pp, .ref r, .ref p] ∧ H pp = some (.lst (ps.map V.int)) ∧ LL H r as rows ∧ Vld L s ps rows ∧ rows.length ≤ 1000 ∧ Las H p h l ∧ l ≠ [] ∧
  (∀ a, a ∈ h ∨ a ∈ l → 0 ≤ a ∧ a < L) ∧ ∀ b, Bst rows ps l (rdw rows h s) b → Q (.int b) H
theorem cal_best (T : Txt K mg cA0 PA0 cA1 PA1) : C8.Cal P w K mg base 1 "_law_best" spBest [] := by
  obtain ⟨f, fd, F, hm, hb⟩ := T.h_law_best
  refine ⟨f, fd, _, [], F.ok sc_law_best (fun vs H Q E h => ?_) (fun cdv A outer s H vs Q E hr h => ?_), hm, F.kp, hb, .nil⟩
  · obtain ⟨pp, r, p, as, L, st, ps, rows, h, l, rfl, _⟩ := h
    rfl
  · obtain ⟨pp, r, p, as, L, st, ps, rows, h, l, rfl, hp, hL, hv, b1, hLas, hne, hlt, q⟩ := h
    refine ⟨_, (pss_cons
      (ps_set (i := 4) sc_law_best.nd rfl (Or.inl rfl) (pv 0))
      (pss_cons
      (ps_for PassesOwn.never rfl (pi_tup (pe_ix (ix_tupK (K := K) rfl) (pv 3) pe_int (fun _ _ => rfl))) (pg_name (i := 5) sc_law_best.nd rfl (.inl rfl)) (pss_one
      (ps_set (i := 4) sc_law_best.nd rfl (Or.inl rfl) (pe_ix (ix_listK (K := K) rfl) (pe_ix (ix_listK (K := K) rfl) (pv 2) (pv 4) (fun _ _ => rfl)) (pv 5) (fun _ _ => rfl)))))
      (pss_cons
      (ps_for PassesOwn.never rfl (pi_range1 (by rfl) T.z_range (pa_cons (pe_callB (call_lenK (K := K) rfl) (by rfl) T.z_len PySem.boot_len (pa_cons (pv 2) pa_nil)) pa_nil)) (pg_name (i := 6) sc_law_best.nd rfl (.inl rfl)) (pss_one
      (ps_for PassesOwn.never rfl (pi_tup (pe_ix (ix_tupK (K := K) rfl) (pv 3) pe_int (fun _ _ => rfl))) (pg_name (i := 5) sc_law_best.nd rfl (.inl rfl)) (pss_one
      (ps_set (i := 4) sc_law_best.nd rfl (Or.inl rfl) (pe_ix (ix_listK (K := K) rfl) (pe_ix (ix_listK (K := K) rfl) (pv 2) (pv 4) (fun _ _ => rfl)) (pv 5) (fun _ _ => rfl)))))))
      (pss_cons
      (ps_set (i := 7) sc_law_best.nd rfl (Or.inl rfl) pe_int)
      (pss_cons
      (ps_for PassesOwn.never rfl (pi_range1 (by rfl) T.z_range (pa_cons (pe_callB (call_lenK (K := K) rfl) (by rfl) T.z_len PySem.boot_len (pa_cons (pv 2) pa_nil)) pa_nil)) (pg_name (i := 6) sc_law_best.nd rfl (.inl rfl)) (pss_one
      (ps_for PassesOwn.never rfl (pi_tup (pe_ix (ix_tupK (K := K) rfl) (pv 3) pe_int (fun _ _ => rfl))) (pg_name (i := 5) sc_law_best.nd rfl (.inl rfl)) (pss_cons
      (ps_set (i := 4) sc_law_best.nd rfl (Or.inl rfl) (pe_ix (ix_listK (K := K) rfl) (pe_ix (ix_listK (K := K) rfl) (pv 2) (pv 4) (fun _ _ => rfl)) (pv 5) (fun _ _ => rfl)))
      (pss_one
      (ps_set (i := 7) sc_law_best.nd rfl (Or.inl rfl) (pe_callB (call_max2 rfl) (by rfl) T.z_max (by decide +kernel) (pa_cons (pv 7) (pa_cons (pe_ix (ix_listK (K := K) rfl) (pv 1) (pv 4) (fun _ _ => rfl)) pa_nil)))))))))
      (pss_one
      (ps_ret (pv 7)))))))), ?_⟩
    obtain ⟨a, b, f1, f2, f3⟩ := hLas
    have hl2 : (as.map V.ref).length = rows.length := by rw [List.length_map, hL.2.len]
    have i0 : ∀ a b : V, atI [a, b] 0 = some a := fun _ _ => rfl
    have i1 : ∀ a b : V, atI [a, b] 1 = some b := fun _ _ => rfl
    have hd : ∀ s a, 0 ≤ s → s < (rows.length : Int) → 0 ≤ a → a < L → 0 ≤ dl rows s a ∧ dl rows s a < (rows.length : Int) := fun s a h0 h1 h2 h3 => dl_ok hv h0 h1 h2 h3
    have hs0 := hv.2.2.2.1
    have hhd : ∀ a ∈ h, 0 ≤ a ∧ a < L := fun a ha => hlt a (.inl ha)
    have hlp : ∀ a ∈ l, 0 ≤ a ∧ a < L := fun a ha => hlt a (.inr ha)
    have hn0 : 0 < rows.length := List.length_pos_iff.mpr hv.2.1
    have get : ∀ {s z : Int}, 0 ≤ s → s < (rows.length : Int) → 0 ≤ z → z < L → ∃ (a : Addr) (row : List Int), atI (as.map V.ref) s = some (.ref a) ∧ H a = some (.lst (row.map V.int)) ∧ atI (row.map V.int) z = some (.int (dl rows s z)) := fun h0 h1 h2 h3 => dl_at hL.2 hv h0 h1 h2 h3
    refine ⟨_, rfl, ?_⟩
    refine ⟨_, rfl, p, _, _, _, rfl, rfl, .of f1, i0 _ _, a, rfl, ⟨_, .of f2⟩, for_tup (K := K) (a := a) (xs := h.map V.int) (fun i σ H' => ∃ v5 : Option V, σ = [some (.int st), some (.ref pp), some (.ref r), some (.ref p), some (.int (rdw rows (h.take i) st)), v5, none, none] ∧ H' = H)
      ⟨none, rfl, rfl⟩ (fun i σ H' _ ⟨_, _, z⟩ => by rw [z]; exact .of f2) ?_ ?_⟩
    · rintro i y σ H' hi ⟨v5, rfl, rfl⟩
      obtain ⟨z, hz, rfl⟩ := ints_get hi
      have rg := (vb_range hd (w := h.take i) (fun a ha => hhd a (List.mem_of_mem_take ha)) hs0.1 hs0.2).2
      have hz2 := hhd z (List.mem_of_getElem? hz)
      obtain ⟨a2, row, r1, r2, r3⟩ := get rg.1 rg.2 hz2.1 hz2.2
      refine ⟨_, rfl, _, rfl, r, _, _, .ref a2, rfl, rfl, .of hL.1, r1, _, rfl, a2, _, _, _, rfl, rfl, .of r2, r3, some (.int z), ?_, rfl⟩
      rw [rdw_snoc hz]
      rfl
    · rintro σ H' ⟨v5, rfl, rfl⟩
      rw [List.length_map, List.take_length]
      have hl0 : 0 ≤ rdw rows h st ∧ rdw rows h st < (rows.length : Int) := (vb_range hd (w := h) hhd hs0.1 hs0.2).2
      generalize rdw rows h st = s0 at *
      have hor := orb_range (w := l) hd hlp hl0.1 hl0.2
      -- a round
      refine ⟨_, rfl, r, _, rfl, .inl (.of hL.1), _, rfl, by omega, by omega, for_range (lo := 0) (n := (((as.map V.ref).length : Nat) : Int).toNat) (fun i σ H2 => ∃ v5 v6 : Option V, σ = [some (.int st), some (.ref pp), some (.ref r), some (.ref p), some (.int (orb rows l s0 i)), v5, v6, none] ∧ H2 = H')
        ⟨v5, none, rfl, rfl⟩ ?_ ?_⟩
      · rintro i σ H2 hi ⟨v5, v6, rfl, rfl⟩
        have hoi := hor i
        refine ⟨_, rfl, p, _, _, _, rfl, rfl, .of f1, i1 _ _, b, rfl, ⟨_, .of f3⟩, for_tup (K := K) (a := b) (xs := l.map V.int) (fun k σ H3 => ∃ v5 v6 : Option V, σ = [some (.int st), some (.ref pp), some (.ref r), some (.ref p), some (.int (rdw rows (l.take k) (orb rows l s0 i))), v5, v6, none] ∧ H3 = H2)
          ⟨_, _, rfl, rfl⟩ (fun i σ H' _ ⟨_, _, _, z⟩ => by rw [z]; exact .of f3) ?_ ?_⟩
        · rintro k y σ H3 hk ⟨v5, v6, rfl, rfl⟩
          obtain ⟨z, hz, rfl⟩ := ints_get hk
          have rg := (vb_range hd (w := l.take k) (fun a ha => hlp a (List.mem_of_mem_take ha)) hoi.1 hoi.2).2
          have hz2 := hlp z (List.mem_of_getElem? hz)
          obtain ⟨a2, row, r1, r2, r3⟩ := get rg.1 rg.2 hz2.1 hz2.2
          refine ⟨_, rfl, _, rfl, r, _, _, .ref a2, rfl, rfl, .of hL.1, r1, _, rfl, a2, _, _, _, rfl, rfl, .of r2, r3, some (.int z), v6, ?_, rfl⟩
          rw [rdw_snoc hz]
          rfl
        · rintro σ H3 ⟨v5, v6, rfl, rfl⟩
          rw [List.length_map, List.take_length]
          exact ⟨_, _, rfl, rfl⟩
      · rintro σ H2 ⟨v5, v6, rfl, rfl⟩
        rw [show (((as.map V.ref).length : Nat) : Int).toNat = rows.length by omega]
        generalize hn : rows.length = n at *
        -- the rounds that count
        refine ⟨_, rfl, r, _, rfl, .inl (.of hL.1), _, rfl, by omega, by omega, for_range (lo := 0) (n := (((as.map V.ref).length : Nat) : Int).toNat) (fun i σ H3 => ∃ (v5 v6 : Option V) (g : Int), σ = [some (.int st), some (.ref pp), some (.ref r), some (.ref p), some (.int (orb rows l s0 (n + i))), v5, v6, some (.int g)] ∧ H3 = H2 ∧ Mz ps (vas rows l s0 n i) g)
          ⟨v5, v6, 0, rfl, rfl, Int.le_refl _, fun y hy => by simp [vas] at hy, .inl rfl⟩ ?_ ?_⟩
        · rintro i σ H3 hi ⟨v5, v6, g, rfl, rfl, hM⟩
          have hoi := hor (n + i)
          refine ⟨_, rfl, p, _, _, _, rfl, rfl, .of f1, i1 _ _, b, rfl, ⟨_, .of f3⟩, for_tup (K := K) (a := b) (xs := l.map V.int) (fun k σ H4 => ∃ (v5 v6 : Option V) (g : Int), σ = [some (.int st), some (.ref pp), some (.ref r), some (.ref p), some (.int (rdw rows (l.take k) (orb rows l s0 (n + i)))), v5, v6, some (.int g)] ∧ H4 = H3 ∧ Mz ps (vas rows l s0 n i ++ va rows (l.take k) (orb rows l s0 (n + i))) g)
            ⟨_, _, g, rfl, rfl, by rw [List.take_zero, show va rows [] (orb rows l s0 (n + i)) = [] from rfl, List.append_nil]; exact hM⟩ (fun i σ H' _ ⟨_, _, _, _, z, _⟩ => by rw [z]; exact .of f3) ?_ ?_⟩
          · rintro k y σ H4 hk ⟨v5, v6, g, rfl, rfl, hM⟩
            obtain ⟨z, hz, rfl⟩ := ints_get hk
            have rg := (vb_range hd (w := l.take k) (fun a ha => hlp a (List.mem_of_mem_take ha)) hoi.1 hoi.2).2
            have hz2 := hlp z (List.mem_of_getElem? hz)
            obtain ⟨a2, row, r1, r2, r3⟩ := get rg.1 rg.2 hz2.1 hz2.2
            have rg2 := hd _ _ rg.1 rg.2 hz2.1 hz2.2
            have hpr : atI (ps.map V.int) (dl rows (rdw rows (l.take k) (orb rows l s0 (n + i))) z) = some (.int (pri ps (dl rows (rdw rows (l.take k) (orb rows l s0 (n + i))) z))) := int_at rg2.1 (by rw [hv.2.2.1, hn]; exact rg2.2)
            refine ⟨_, rfl, _, rfl, r, _, _, .ref a2, rfl, rfl, .of hL.1, r1, _, rfl, a2, _, _, _, rfl, rfl, .of r2, r3, ?_⟩
            refine ⟨_, rfl, _, rfl, _, rfl, pp, _, _, _, rfl, rfl, .of hp, hpr, _, _, rfl, some (.int z), v6, (if pri ps (dl rows (rdw rows (l.take k) (orb rows l s0 (n + i))) z) > g then pri ps (dl rows (rdw rows (l.take k) (orb rows l s0 (n + i))) z) else g), ?_, rfl, ?_⟩
            · rw [rdw_snoc hz]
              rfl
            · rw [va_snoc hz, ← List.append_assoc]
              exact hM.step
          · rintro σ H4 ⟨v5, v6, g, rfl, rfl, hM⟩
            rw [List.length_map, List.take_length] at *
            exact ⟨_, _, g, rfl, rfl, hM⟩
        · rintro σ H3 ⟨v5, v6, g, rfl, rfl, hM⟩
          rw [show (((as.map V.ref).length : Nat) : Int).toNat = n by omega] at hM
          refine ⟨_, rfl, q g (bst_law hn0 hne hor hv.2.2.2.2.2 (fun i i1 i2 x hx => hM.2.1 x (vas_mem.mpr ⟨i, i1, i2, hx⟩)) ?_)⟩
          rcases hM.2.2 with z | ⟨x, hx, e⟩
          · exact .inl z
          · obtain ⟨i, i1, i2, i3⟩ := vas_mem.mp hx
            exact .inr ⟨i, x, i1, i3, e⟩
theorem cal_check {cI : Addr} (T : Txt K mg cA0 PA0 cA1 PA1) (eI : ErrC K mg "InvalidAutomaton" cI) : CalX P w K mg base 1 "check_state" (spCheckS cI) := by
  obtain ⟨f, fd, F, hm, hb⟩ := T.h_check_state
  refine ⟨f, fd, _, F.okX sc_check_state (fun vs H Q E h => ?_) (fun cdv A outer s H vs Q E hr h => ?_), hm, F.kp, hb⟩
  · obtain ⟨z, n, rfl, _⟩ := h
    rfl
  · obtain ⟨z, n, rfl, q1, q2⟩ := h
    refine ⟨_, (pss_one
      (ps_if (PW.pt (pw_or (pt_cmpR op_lt (pv 0) pe_int (nomark _)) (pw_or1 (pt_cmpR op_ge (pv 0) (pv 1) (nomark _))))) (pss_one
      (ps_raise rfl (takes_of rfl rfl rfl rfl) (eI.made rfl))) pss_nil)), ?_⟩
    refine ⟨_, rfl, _, _, rfl, rfl, _, rfl, ite_lt (fun c => q1 (by omega)) (fun c1 => ?_)⟩
    refine ⟨_, rfl, _, rfl, _, _, rfl, rfl, _, rfl, ite2 (fun c => ?_) (fun c => ?_)⟩
    · have := of_decide_eq_true c
      exact q1 (by omega)
    · have : ¬ n ≤ z := fun y => c (decide_eq_true y)
      exact q2 (by omega)
theorem ok_init {cI C fI : Addr} {fdI : FuncData} (T : Txt K mg cA0 PA0 cA1 PA1) (eI : ErrC K mg "InvalidAutomaton" cI) (PC : ParC K C) (F : L2.Fun K "__init__" "ParityAutomaton.__init__" s_ParityAutomaton_init fI fdI) :
    FnOk P w K mg base (L2.CX P w) 2 fI fdI ["self", "letters", "start", "priorities", "rows"] (spInitP C cI) := by
  have X_check_state : CalX P w K mg base 1 "check_state" (spCheckS cI) := cal_check T eI
  refine F.okX sc_ParityAutomaton_init (fun vs H Q E h => ?_) (fun cdv A outer s H vs Q E hr h => ?_)
  · obtain ⟨x, p, r, dx, L, st, ps, as, rows, rfl, _⟩ := h
    rfl
  · obtain ⟨x, p, r, dx, L, st, ps, as, rows, rfl, hx, hp, hrw, hq, l1, l2, l3, q1, q2⟩ := h
    refine ⟨_, (pss_cons
      (ps_if (pt_cmpR op_lt (pv 1) pe_int (nomark _)) (pss_one
      (ps_raise rfl (takes_of rfl rfl rfl rfl) (eI.made rfl))) pss_nil)
      (pss_cons
      (ps_if (pt_cmpR op_eq (pe_callB (call_lenK (K := K) rfl) (by rfl) T.z_len PySem.boot_len (pa_cons (pv 4) pa_nil)) pe_int (nomark _)) (pss_one
      (ps_raise rfl (takes_of rfl rfl rfl rfl) (eI.made rfl))) pss_nil)
      (pss_cons
      (ps_if (pt_cmpR op_ne (pe_callB (call_lenK (K := K) rfl) (by rfl) T.z_len PySem.boot_len (pa_cons (pv 3) pa_nil)) (pe_callB (call_lenK (K := K) rfl) (by rfl) T.z_len PySem.boot_len (pa_cons (pv 4) pa_nil)) (nomark _)) (pss_one
      (ps_raise rfl (takes_of rfl rfl rfl rfl) (eI.made rfl))) pss_nil)
      (pss_cons
      (ps_expr (pe_cx X_check_state hr (by decide) (takes_of rfl rfl rfl rfl) (by rfl) (pa_cons (pv 2) (pa_cons (pe_callB (call_lenK (K := K) rfl) (by rfl) T.z_len PySem.boot_len (pa_cons (pv 4) pa_nil)) pa_nil))))
      (pss_cons
      (ps_for (passes_of rfl) rfl (pi_seq (K := K) rfl (pv 4)) (pg_name (i := 5) sc_ParityAutomaton_init.nd rfl (.inl rfl)) (pss_cons
      (ps_if (pt_cmpR op_ne (pe_callB (call_lenK (K := K) rfl) (by rfl) T.z_len PySem.boot_len (pa_cons (pv 5) pa_nil)) (pv 1) (nomark _)) (pss_one
      (ps_raise rfl (takes_of rfl rfl rfl rfl) (eI.made rfl))) pss_nil)
      (pss_one
      (ps_for (passes_of rfl) rfl (pi_seq (K := K) rfl (pv 5)) (pg_name (i := 6) sc_ParityAutomaton_init.nd rfl (.inl rfl)) (pss_one
      (ps_expr (pe_cx X_check_state hr (by decide) (takes_of rfl rfl rfl rfl) (by rfl) (pa_cons (pv 6) (pa_cons (pe_callB (call_lenK (K := K) rfl) (by rfl) T.z_len PySem.boot_len (pa_cons (pv 4) pa_nil)) pa_nil)))))))))
      (pss_cons
      (ps_if (pt_cmpR op_lt (pe_callB (call_minK (K := K) rfl rfl) (by rfl) T.z_min (by decide +kernel) (pa_cons (pv 3) pa_nil)) pe_int (nomark _)) (pss_one
      (ps_raise rfl (takes_of rfl rfl rfl rfl) (eI.made rfl))) pss_nil)
      (pss_cons
      (ps_fld (pv 0) (pv 1) rfl)
      (pss_cons
      (ps_fld (pv 0) (pv 2) rfl)
      (pss_cons
      (ps_fld (pv 0) (pe_callTy (call_tuple_ofK (K := K) rfl) (by rfl) T.z_tuple (by decide +kernel) (pa_cons (pv 3) pa_nil)) rfl)
      (pss_one
      (ps_fld (pv 0) (pe_callTy (call_tuple_ofK (K := K) rfl) (by rfl) T.z_tuple (by decide +kernel) (pa_cons (pe_lc (own := [("row", 5)]) (g := gName 5) (tt := tYes) rfl sc_ParityAutomaton_init.nd (pi_seq (K := K) rfl (pv 4)) (blkOk_by (N := N_ParityAutomaton_init) (sc := defScope s_ParityAutomaton_init) (by decide +kernel)) (fun _ _ _ _ _ => (pg_name (i := 5) sc_ParityAutomaton_init.nd rfl (Or.inl rfl))) (fun _ _ _ _ _ => pts_nil) (fun _ _ _ _ _ => (pe_callTy (call_tuple_ofK (K := K) rfl) (by rfl) T.z_tuple (by decide +kernel) (pa_cons (pv 5) pa_nil)))) pa_nil)) rfl))))))))))), ?_⟩
    have hlen : as.length = rows.length := hq.len
    have hl2 : (as.map V.ref).length = rows.length := by rw [List.length_map, hlen]
    refine ⟨_, rfl, _, _, rfl, rfl, _, rfl, ite_lt (fun c => q1 (fun v => by have := v.1; omega)) (fun c1 => ?_)⟩
    refine ⟨_, rfl, r, _, rfl, hrw.sq, rfl, _, rfl, ite_eq (fun c => ?_) (fun c2 => ?_)⟩
    · exact q1 fun v => v.2.1 (List.length_eq_zero_iff.mp (by omega))
    have hne : rows ≠ [] := fun z => c2 (by rw [hl2, z]; rfl)
    refine ⟨_, rfl, p, _, rfl, .inl (.of hp), _, rfl, r, _, rfl, hrw.sq, rfl, _, rfl, ite_ne (fun c => ?_) (fun c3 => ?_)⟩
    · exact q1 fun v => c (by rw [hl2, List.length_map, v.2.2.1])
    have e3 : ps.length = rows.length := by
      rw [List.length_map] at c3
      omega
    refine ⟨_, rfl, _, rfl, r, _, rfl, hrw.sq, st, _, rfl, fun c => q1 fun v => c (by rw [hl2]; exact v.2.2.2.1), fun c4 => ?_⟩
    rw [hl2] at c4
    refine for_seq (a := r) (xs := as.map V.ref) rfl hrw (fun i σ' H' => ∃ v5 v6 : Option V, σ' = [some (.ref x), some (.int L), some (.int st), some (.ref p), some (.ref r), v5, v6] ∧ H' = H ∧ ∀ q ∈ rows.take i, (q.length : Int) = L ∧ ∀ y ∈ q, 0 ≤ y ∧ y < (rows.length : Int))
      ⟨_, _, rfl, rfl, by simp⟩ (fun i σ' H' ⟨_, _, _, z, _⟩ => by rw [z]; exact fun _ _ h => h) ?_ ?_
    · rintro i v σ' H' hi ⟨v5, v6, rfl, rfl, hall⟩
      obtain ⟨a, ha, rfl⟩ := refs_get hi
      obtain ⟨row, hrow, sr⟩ := hq.get ha
      have hmem := List.mem_of_getElem? hrow
      refine ⟨_, rfl, a, _, rfl, sr.sq, _, rfl, rfl, _, rfl, ite_ne (fun c => ?_) (fun c5 => ?_)⟩
      · exact q1 fun v => c (by rw [List.length_map]; exact (v.2.2.2.2.1 row hmem).1)
      rw [List.length_map] at c5
      refine for_seq (a := a) (xs := row.map V.int) rfl sr (fun j σ' H2 => ∃ v6 : Option V, σ' = [some (.ref x), some (.int L), some (.int st), some (.ref p), some (.ref r), some (.ref a), v6] ∧ H2 = H' ∧ ∀ y ∈ row.take j, 0 ≤ y ∧ y < (rows.length : Int))
        ⟨_, rfl, rfl, by simp⟩ (fun i σ' H' ⟨_, _, z, _⟩ => by rw [z]; exact fun _ _ h => h) ?_ ?_
      · rintro j v σ' H2 hj ⟨v6, rfl, rfl, hall2⟩
        obtain ⟨y, hy, rfl⟩ := ints_get hj
        refine ⟨_, rfl, _, rfl, r, _, rfl, hrw.sq, y, _, rfl, fun c => q1 fun v => c (by rw [hl2]; exact (v.2.2.2.2.1 row hmem).2 y (List.mem_of_getElem? hy)), fun c6 => ?_⟩
        rw [hl2] at c6
        refine ⟨_, rfl, rfl, fun z hz => ?_⟩
        rw [take_get hy] at hz
        rcases List.mem_append.mp hz with k | k
        · exact hall2 z k
        · rw [List.mem_singleton.mp k]
          exact c6
      · rintro σ' H2 ⟨v6, rfl, rfl, hall2⟩
        rw [List.length_map, List.take_length] at hall2
        refine ⟨_, _, rfl, rfl, fun z hz => ?_⟩
        rw [take_get hrow] at hz
        rcases List.mem_append.mp hz with k | k
        · exact hall z k
        · rw [List.mem_singleton.mp k]
          exact ⟨c5, hall2⟩
    · rintro σ' H' ⟨v5, v6, rfl, rfl, hall⟩
      rw [hl2, List.take_length] at hall
      refine ⟨_, rfl, p, ps, rfl, .of hp, by rw [e3]; exact List.length_pos_iff.mpr hne, fun m hm hmin => ⟨_, _, rfl, rfl, _, rfl, ite_lt (fun c => ?_) (fun c7 => ?_)⟩⟩
      · exact q1 fun v => by
          have := v.2.2.2.2.2 m hm
          omega
      have hv : Vld L st ps rows := ⟨by omega, hne, e3, c4, hall, fun q hq => by
        have := hmin q hq
        omega⟩
      -- self.letters, self.start
      refine ⟨_, rfl, _, rfl, x, C, dx, [], rfl, hx, PC.cl, PC.nL, by decide, ?_⟩
      refine ⟨_, rfl, _, rfl, x, C, dx, _, rfl, upd_same, PC.cl, PC.nS, pl_lt (pl_next pl_0) (by decide), ?_⟩
      have k2 : Kp x H' (upd (upd H' x (.ins C dx (putF "letters" (.int L) []))) x (.ins C dx (putF "start" (.int st) (putF "letters" (.int L) [])))) := Kp.own.trans Kp.own
      have x2 : (upd (upd H' x (.ins C dx (putF "letters" (.int L) []))) x (.ins C dx (putF "start" (.int st) (putF "letters" (.int L) [])))) x = some (.ins C dx (putF "start" (.int st) (putF "letters" (.int L) []))) := upd_same
      generalize upd (upd H' x (.ins C dx (putF "letters" (.int L) []))) x (.ins C dx (putF "start" (.int st) (putF "letters" (.int L) []))) = H2 at *
      have npx : p ≠ x := fun z => by rw [z, hx] at hp; cases hp
      -- self.priorities
      refine ⟨_, rfl, p, _, rfl, .inl ⟨.of (k2 _ _ npx hp), fun pt hpt => ?_⟩⟩
      have nxp : x ≠ pt := fun z => by rw [z, hpt] at x2; cases x2
      refine ⟨_, rfl, x, C, dx, _, rfl, by rw [upd_ne nxp]; exact x2, PC.cl, PC.nP, pl_lt (pl_next (pl_next pl_0)) (by decide), ?_⟩
      have k3 : Kp x H2 (upd (upd H2 pt (.tup (ps.map V.int))) x (.ins C dx (putF "priorities" (.ref pt) (putF "start" (.int st) (putF "letters" (.int L) []))))) := (Kp.new hpt).trans Kp.own
      have x3 : (upd (upd H2 pt (.tup (ps.map V.int))) x (.ins C dx (putF "priorities" (.ref pt) (putF "start" (.int st) (putF "letters" (.int L) []))))) x = some (.ins C dx (putF "priorities" (.ref pt) (putF "start" (.int st) (putF "letters" (.int L) [])))) := upd_same
      have t3 : TupI (upd (upd H2 pt (.tup (ps.map V.int))) x (.ins C dx (putF "priorities" (.ref pt) (putF "start" (.int st) (putF "letters" (.int L) []))))) pt ps := by
        show _ = _
        rw [upd_ne nxp.symm, upd_same]
      generalize upd (upd H2 pt (.tup (ps.map V.int))) x (.ins C dx (putF "priorities" (.ref pt) (putF "start" (.int st) (putF "letters" (.int L) [])))) = H3 at *
      have nrx : r ≠ x := fun z => by
        rcases hrw with h | h
        · rw [z, hx] at h; cases h
        · rw [z, hx] at h; cases h
      have k03 : Kp x H' H3 := k2.trans k3
      have hr3 : SeqV H3 r (as.map V.ref) := by
        rcases hrw with h | h
        · exact .inl (k03 _ _ nrx h)
        · exact .inr (k03 _ _ nrx h)
      have q3 : ∀ {b : Addr} {xs : List Int}, SeqI H' b xs → SeqI H3 b xs := fun {b xs} h => by
        rcases h with h | h
        · exact .inl (k03 _ _ (fun z => by rw [z, hx] at h; cases h) h)
        · exact .inr (k03 _ _ (fun z => by rw [z, hx] at h; cases h) h)
      -- self.rows
      dsimp only
      refine fld_def (cb1_def ?_)
      refine lc_seq (a := r) (xs := as.map V.ref) rfl hr3 (fun D i H4 => ∃ bs : List Addr, Same H3 H4 ∧ H4 D = some (.lst (bs.map V.ref)) ∧ RowsA .tup H4 bs (rows.take i))
        (fun D hD => ⟨[], same_new hD, upd_same, True.intro⟩) (fun D j H4 _ ⟨_, z, _⟩ => z) ?_ ?_
      · rintro D hD i v H4 hi ⟨bs, s4, e4, R4⟩
        obtain ⟨a, ha, rfl⟩ := refs_get hi
        obtain ⟨row, hrow, sr⟩ := hq.get ha
        have hil : i < rows.length := (List.getElem?_eq_some_iff.mp hrow).1
        refine ⟨rfl, _, rfl, ?_⟩
        dsimp only [tNil]
        refine tupq ((q3 sr).same s4) fun H5 t s5 t5 => ?_
        have bl : bs.length ≤ i := by
          have := R4.len
          rw [List.length_take] at this
          omega
        refine ⟨_, s5 _ _ e4, by rw [List.length_map]; exact Nat.lt_of_le_of_lt (show bs.length ≤ 1000 by omega) (by decide), bs ++ [t], ?_, ?_, ?_⟩
        · intro b o hb
          rw [upd_ne (ne_of_none hb hD)]
          exact s5 _ _ (s4 _ _ hb)
        · rw [upd_same, List.map_append]
          rfl
        · rw [take_get hrow]
          have nt : ∀ ys, H5 D ≠ some (.tup ys) := fun ys z => by rw [s5 _ _ e4] at z; cases z
          refine RowsA.snoc ?_ (rowsUpd nt (R4.same s5))
          rw [upd_ne (fun z => by rw [z] at t5; exact nt _ t5)]
          exact t5
      · rintro D H4 hD ⟨bs, s4, e4, R4⟩
        rw [hl2, List.take_length] at R4
        refine ⟨D, _, rfl, .inl ⟨.of e4, fun rt hrt => ?_⟩⟩
        have nxr : x ≠ rt := fun z => by
          have y := s4 _ _ x3
          rw [z, hrt] at y
          cases y
        have npr : pt ≠ rt := fun z => by
          have y := s4 _ _ t3
          rw [z, hrt] at y
          cases y
        have x4 : (upd H4 rt (.tup (bs.map V.ref))) x = some (.ins C dx (putF "priorities" (.ref pt) (putF "start" (.int st) (putF "letters" (.int L) [])))) := by
          rw [upd_ne nxr]
          exact s4 _ _ x3
        refine ⟨_, rfl, x, C, dx, _, rfl, x4, PC.cl, PC.nR, pl_lt (pl_next (pl_next (pl_next pl_0))) (by decide), q2 hv _ ?_ ⟨dx, pt, rt, bs, upd_same, ?_, ?_, ?_⟩⟩
        · intro b o nb hb
          rw [upd_ne nb, upd_ne (fun z => by have y := s4 _ _ (k03 _ _ nb hb); rw [z, hrt] at y; cases y)]
          exact s4 _ _ (k03 _ _ nb hb)
        · show _ = _
          rw [upd_ne nxp.symm, upd_ne npr]
          exact s4 _ _ t3
        · rw [upd_ne nxr.symm, upd_same]
        · exact rowsUpd (fun ys z => by rw [x4] at z; cases z) (R4.same (same_new hrt))
def spFlat : Sp := fun vs H Q _ => ∃ (r : Addr) (as : List Addr) (rows : List (List Int)), vs = [.ref r] ∧ LL H r as rows ∧ rows.length ≤ 1000 ∧ ∀ (H' : Hp) (r' : Addr) (as' : List Addr), Cpy H H' r' as' rows → Q (.ref r') H'
theorem cal_flat (T : Txt K mg cA0 PA0 cA1 PA1) : C8.Cal P w K mg base 1 "_law_flat" spFlat [] := by
  obtain ⟨f, fd, F, hm, hb⟩ := T.h_law_flat
  refine ⟨f, fd, _, [], F.ok sc_law_flat (fun vs H Q E h => ?_) (fun cdv A outer s H vs Q E hr h => ?_), hm, F.kp, hb, .nil⟩
  · obtain ⟨r, as, rows, rfl, _⟩ := h
    rfl
  · obtain ⟨r, as, rows, rfl, hL, b1, q⟩ := h
    refine ⟨_, (pss_one
      (ps_ret (pe_lc (own := [("row", 1)]) (g := gName 1) (tt := tYes) rfl sc_law_flat.nd (pi_list (pv 0)) (blkOk_by (N := N_law_flat) (sc := defScope s_law_flat) (by decide +kernel)) (fun _ _ _ _ _ => (pg_name (i := 1) sc_law_flat.nd rfl (Or.inl rfl))) (fun _ _ _ _ _ => pts_nil) (fun _ _ _ _ _ => (pe_callTy (call_list_ofK (K := K) rfl) (by rfl) T.z_list (by decide +kernel) (pa_cons (pv 1) pa_nil)))))), ?_⟩
    have hl2 : (as.map V.ref).length = rows.length := by rw [List.length_map, hL.2.len]
    refine ⟨_, rfl, r, rfl, ⟨_, .of hL.1⟩, fun D hD => lc_list (K := K) (a := r) (xs := as.map V.ref) (fun i H' => ∃ bs, Cpy H H' D bs (rows.take i))
      ⟨[], cpy_zero hD⟩ (fun i H' _ ⟨_, z, _⟩ => .of (z _ _ hL.1)) ?_ ?_⟩
    · rintro i v H2 hi ⟨bs, c2⟩
      obtain ⟨a, ha, rfl⟩ := refs_get hi
      obtain ⟨row, hrow, sr⟩ := hL.2.get ha
      have hil : i < rows.length := (List.getElem?_eq_some_iff.mp hrow).1
      have bl := c2.2.1.2.len
      rw [List.length_take] at bl
      have nD : ∀ t, H2 t = none → D ≠ t := fun t ht z => by
        have := c2.2.1.1
        rw [z, ht] at this
        cases this
      refine ⟨rfl, _, rfl, a, _, rfl, .inl (.of (c2.1 _ _ sr)), fun t ht => ⟨_, by rw [upd_ne (nD t ht)]; exact c2.2.1.1, by rw [List.length_map]; exact Nat.lt_of_le_of_lt (show bs.length ≤ 1000 by omega) (by decide), bs ++ [t], ?_⟩⟩
      rw [take_get hrow]
      have := cpy_step (row := row) c2 ht
      rw [List.map_append] at this
      exact this
    · rintro H2 ⟨bs, c2⟩
      rw [hl2, List.take_length] at c2
      exact q _ _ _ c2
/-! what the law draws -/
def Gd (d : Addr) (n L s : Int) (pp r : Addr) (as : List Addr) (ps : List Int) (rows : List (List Int)) : Prop := Vld L s ps rows ∧ n = rows.length ∧ (pp :: as).Nodup ∧ d ≠ pp ∧ d ≠ r ∧ d ∉ as ∧ pp ≠ r ∧ r ∉ as
def spPar : Sp := fun vs H Q _ => ∃ (d : Addr) (L : Int) (m : Nat), vs = [.ref d, .int L, .int m] ∧ Drw H d ∧ 1 ≤ L ∧ L ≤ 100 ∧ 1 ≤ m ∧ m ≤ 100 ∧
  ∀ (H' : Hp) (t pp r : Addr) (as : List Addr) (s : Int) (ps : List Int) (rows : List (List Int)), Kp d H H' → Drw H' d → H' t = some (.tup [.int s, .ref pp, .ref r]) → H' pp = some (.lst (ps.map V.int)) → LL H' r as rows → Gd d rows.length L s pp r as ps rows → rows.length ≤ m → (∀ p ∈ ps, p ≤ 3) → Q (.ref t) H'
theorem cal_parity (T : Txt K mg cA0 PA0 cA1 PA1) : C8.Cal P w K mg base 2 "_law_parity" spPar [] := by
  have C_law_take : C8.Cal P w K mg base 1 "_law_take" spTake [] := cal_take T
  obtain ⟨f, fd, F, hm, hb⟩ := T.h_law_parity
  refine ⟨f, fd, _, [], F.ok sc_law_parity (fun vs H Q E h => ?_) (fun cdv A outer s H vs Q E hr h => ?_), hm, F.kp, hb, .nil⟩
  · obtain ⟨d, L, m, rfl, _⟩ := h
    rfl
  · obtain ⟨d, L, m, rfl, hd, L1, L2, m1, m2, q⟩ := h
    refine ⟨_, (pss_cons
      (ps_set (i := 3) sc_law_parity.nd rfl (Or.inr rfl) (pe_op op_add pe_int (C8.pe_c C_law_take hr (by decide) (by rfl) (pa_cons (pv 0) (pa_cons (pv 2) pa_nil)))))
      (pss_cons
      (ps_set (i := 4) sc_law_parity.nd rfl (Or.inr rfl) (pe_op op_add pe_int (C8.pe_c C_law_take hr (by decide) (by rfl) (pa_cons (pv 0) (pa_cons pe_int pa_nil)))))
      (pss_cons
      (ps_setLc (i := 5) (own := [("state", 7)]) (g := gName 7) (tt := tYes) rfl sc_law_parity.nd rfl rfl (sw_true rfl rfl rfl (by decide +kernel)) (pi_range1 (by rfl) T.z_range (pa_cons (pv 3) pa_nil)) (blkOk_by (N := N_law_parity) (sc := defScope s_law_parity) (by decide +kernel)) (fun _ _ _ _ _ => (pg_name (i := 7) sc_law_parity.nd rfl (Or.inl rfl))) (fun _ _ _ _ _ => pts_nil) (fun _ _ _ _ _ => (C8.pe_c C_law_take hr (by decide) (by rfl) (pa_cons (pv 0) (pa_cons (pv 4) pa_nil)))))
      (pss_cons
      (ps_set (i := 6) sc_law_parity.nd rfl (Or.inl rfl) (pe_lst pa_nil))
      (pss_cons
      (ps_for PassesOwn.never rfl (pi_range1 (by rfl) T.z_range (pa_cons (pv 3) pa_nil)) (pg_name (i := 7) sc_law_parity.nd rfl (.inl rfl)) (pss_one
      (ps_expr (pe_bm PySem.F.plainAttrs_list PySem.F.slot_list_append PySem.F.type_list_append mt_append (pv 6) (pa_cons (pe_lc (own := [("letter", 8)]) (g := gName 8) (tt := tYes) rfl sc_law_parity.nd (pi_range1 (by rfl) T.z_range (pa_cons (pv 1) pa_nil)) (blkOk_by (N := N_law_parity) (sc := defScope s_law_parity) (by decide +kernel)) (fun _ _ _ _ _ => (pg_name (i := 8) sc_law_parity.nd rfl (Or.inl rfl))) (fun _ _ _ _ _ => pts_nil) (fun _ _ _ _ _ => (C8.pe_c C_law_take hr (by decide) (by rfl) (pa_cons (pv 0) (pa_cons (pv 3) pa_nil))))) pa_nil)))))
      (pss_one
      (ps_ret (pe_tup (pa_cons (C8.pe_c C_law_take hr (by decide) (by rfl) (pa_cons (pv 0) (pa_cons (pv 3) pa_nil))) (pa_cons (pv 5) (pa_cons (pv 6) pa_nil))))))))))), ?_⟩
    refine ⟨_, rfl, _, rfl, d, m, rfl, hd, by omega, fun c ds c0 c1 => ?_⟩
    have k1 : Kp d H (upd H d (.lst (ds.map V.int))) := Kp.own
    have d1 : Drw (upd H d (.lst (ds.map V.int))) d := Drw.own
    generalize upd H d (.lst (ds.map V.int)) = H1 at *
    refine ⟨_, _, rfl, rfl, ?_⟩
    obtain ⟨n, hn⟩ : ∃ n : Nat, n = (1 + c).toNat := ⟨_, rfl⟩
    have en : (n : Int) = 1 + c := by omega
    have hn1 : 1 ≤ n := by omega
    have hnm : n ≤ m := by omega
    refine ⟨_, rfl, d, 4, rfl, d1, by decide, fun tp ds2 t0 t1 => ?_⟩
    have k2 : Kp d H (upd H1 d (.lst (ds2.map V.int))) := k1.trans Kp.own
    have d2 : Drw (upd H1 d (.lst (ds2.map V.int))) d := Drw.own
    generalize upd H1 d (.lst (ds2.map V.int)) = H2 at *
    clear d1 k1
    refine ⟨_, _, rfl, rfl, ?_⟩
    -- priorities
    refine ⟨_, rfl, _, rfl, by omega, by omega, fun D hD => ?_⟩
    have nDd : D ≠ d := fun z => by obtain ⟨o, y⟩ := d2; rw [← z, hD] at y; cases y
    refine lc_range (lo := 0) (n := (1 + c).toNat) (fun i H' => ∃ xs : List Int, Kp d H2 H' ∧ Drw H' d ∧ H' D = some (.lst (xs.map V.int)) ∧ xs.length = i ∧ ∀ x ∈ xs, 0 ≤ x ∧ x ≤ 3)
      ⟨[], Kp.new hD, d2.new hD, upd_same, rfl, by simp⟩ ?_ ?_
    · rintro i H3 hi ⟨xs, k3, d3, e3, el, hx⟩
      refine ⟨rfl, _, rfl, _, rfl, d, _, rfl, d3, by omega, fun u us u0 u1 => ?_⟩
      refine ⟨xs.map V.int, by rw [upd_ne nDd]; exact e3, lenI (by omega), xs ++ [u], ?_, ?_, ?_, ?_, ?_⟩
      · intro b o nb hb
        rw [upd_ne (ne_of_none hb hD), upd_ne nb]
        exact k3 _ _ nb hb
      · exact ⟨us, by rw [upd_ne nDd.symm, upd_same]⟩
      · rw [upd_same, List.map_append]
        rfl
      · simp [el]
      · intro x hx2
        rcases List.mem_append.mp hx2 with z | z
        · exact hx x z
        · rw [List.mem_singleton.mp z]
          exact ⟨u0, by omega⟩
    · rintro H3 ⟨ps, k3, d3, e3, el, hx⟩
      rw [← hn] at el
      refine ⟨Nat.zero_le _, fun r hr0 => ?_⟩
      have nrd : r ≠ d := fun z => by obtain ⟨o, y⟩ := d3; rw [← z, hr0] at y; cases y
      have nDr : D ≠ r := fun z => by rw [z, hr0] at e3; cases e3
      refine ⟨_, rfl, _, rfl, by omega, by omega, for_range (lo := 0) (n := (1 + c).toNat) (fun i σ H' => ∃ (as : List Addr) (rows : List (List Int)) (v7 : Option V), σ = [some (.ref d), some (.int L), some (.int m), some (.int (1 + c)), some (.int (1 + tp)), some (.ref D), some (.ref r), v7, none] ∧
          Kp d H3 H' ∧ Drw H' d ∧ H' D = some (.lst (ps.map V.int)) ∧ LL H' r as rows ∧ rows.length = i ∧ (∀ q ∈ rows, (q.length : Int) = L ∧ ∀ x ∈ q, 0 ≤ x ∧ x < (n : Int)) ∧ D ∉ as ∧ as.Nodup ∧ d ∉ as ∧ r ∉ as)
        ⟨[], [], none, rfl, Kp.new hr0, d3.new hr0, by rw [upd_ne nDr]; exact e3, ⟨upd_same, True.intro⟩, rfl, by simp, by simp, List.nodup_nil, by simp, by simp⟩ ?_ ?_⟩
      · rintro i σ H4 hi ⟨as, rows, v7, rfl, k4, d4, e4, L4, rl, hrw, n1, n2, n3, n4⟩
        refine ⟨_, rfl, .inl ⟨rfl, _, .of L4.1⟩, _, rfl, _, rfl, by omega, by omega, fun E1 hE => ?_⟩
        have nEd : E1 ≠ d := fun z => by obtain ⟨o, y⟩ := d4; rw [← z, hE] at y; cases y
        refine lc_range (lo := 0) (n := L.toNat) (fun j H' => ∃ xs : List Int, Kp d H4 H' ∧ Drw H' d ∧ H' E1 = some (.lst (xs.map V.int)) ∧ xs.length = j ∧ ∀ x ∈ xs, 0 ≤ x ∧ x < (n : Int))
          ⟨[], Kp.new hE, d4.new hE, upd_same, rfl, by simp⟩ ?_ ?_
        · rintro j H5 hj ⟨xs, k5, d5, e5, xl, hx5⟩
          refine ⟨rfl, _, rfl, _, rfl, d, _, rfl, d5, by omega, fun u us u0 u1 => ?_⟩
          refine ⟨xs.map V.int, by rw [upd_ne nEd]; exact e5, lenI (by omega), xs ++ [u], ?_, ?_, ?_, ?_, ?_⟩
          · intro b o nb hb
            rw [upd_ne (ne_of_none hb hE), upd_ne nb]
            exact k5 _ _ nb hb
          · exact ⟨us, by rw [upd_ne nEd.symm, upd_same]⟩
          · rw [upd_same, List.map_append]
            rfl
          · simp [xl]
          · intro x hx2
            rcases List.mem_append.mp hx2 with z | z
            · exact hx5 x z
            · rw [List.mem_singleton.mp z]
              exact ⟨u0, by omega⟩
        · rintro H5 ⟨xs, k5, d5, e5, xl, hx5⟩
          have nrE : r ≠ E1 := fun z => by have := L4.1; rw [z, hE] at this; cases this
          have nDE : D ≠ E1 := fun z => by rw [z, hE] at e4; cases e4
          have nEa : E1 ∉ as := fun z => by
            obtain ⟨o, y⟩ := rows_some L4.2 z
            rw [hE] at y
            cases y
          have bl := L4.2.len
          refine ⟨r, _, _, rfl, rfl, k5 _ _ nrd L4.1, by rw [List.length_map]; exact Nat.lt_of_le_of_lt (show as.length ≤ 1000 by omega) (by decide), ?_⟩
          refine ⟨as ++ [E1], rows ++ [xs], _, rfl, ?_, ?_, ?_, ⟨?_, ?_⟩, ?_, ?_, ?_, ?_, ?_, ?_⟩
          · intro b o nb hb
            rw [upd_ne (ne_of_none hb hr0)]
            exact k5 _ _ nb (k4 _ _ nb hb)
          · obtain ⟨o, y⟩ := d5
            exact ⟨o, by rw [upd_ne nrd.symm]; exact y⟩
          · rw [upd_ne nDr]
            exact k5 _ _ nDd e4
          · rw [upd_same, List.map_append]
            rfl
          · refine RowsA.snoc ?_ (My.RowsA.drop n4 (L4.2.keep fun b o hb h => k5 _ _ (fun z => n3 (by rw [← z]; exact hb)) h))
            rw [upd_ne nrE.symm]
            exact e5
          · simp [rl]
          · intro q hq
            rcases List.mem_append.mp hq with z | z
            · exact hrw q z
            · rw [List.mem_singleton.mp z]
              exact ⟨by omega, hx5⟩
          · intro z
            rcases List.mem_append.mp z with y | y
            · exact n1 y
            · exact nDE (List.mem_singleton.mp y)
          · refine List.nodup_append.mpr ⟨n2, by simp, fun a ha b hb => ?_⟩
            rw [List.mem_singleton.mp hb]
            exact fun z => nEa (by rw [← z]; exact ha)
          · intro z
            rcases List.mem_append.mp z with y | y
            · exact n3 y
            · exact nEd (List.mem_singleton.mp y).symm
          · intro z
            rcases List.mem_append.mp z with y | y
            · exact n4 y
            · exact nrE (List.mem_singleton.mp y)
      · rintro σ H4 ⟨as, rows, v7, rfl, k4, d4, e4, L4, rl, hrw, n1, n2, n3, n4⟩
        rw [← hn] at rl
        refine ⟨_, rfl, _, rfl, d, _, rfl, d4, by omega, fun st ds5 s0 s1 => ?_⟩
        have f1 : (upd H4 d (.lst (ds5.map V.int))) D = some (.lst (ps.map V.int)) := by rw [upd_ne nDd]; exact e4
        have f2 : LL (upd H4 d (.lst (ds5.map V.int))) r as rows := ⟨by rw [upd_ne nrd]; exact L4.1, My.RowsA.drop n3 L4.2⟩
        have f3 : Kp d H (upd H4 d (.lst (ds5.map V.int))) := ((k2.trans k3).trans k4).trans Kp.own
        have f4 : Drw (upd H4 d (.lst (ds5.map V.int))) d := Drw.own
        generalize upd H4 d (.lst (ds5.map V.int)) = H5 at *
        refine ⟨_, rfl, _, rfl, by show 3 ≤ sizeLine; decide, fun t ht => ?_⟩
        have s5 := same_new (o := .tup [.int st, .ref D, .ref r]) ht
        refine q _ t D r as st ps rows (f3.trans (Same.kp s5)) (f4.new ht) upd_same (s5 _ _ f1) (LL.same s5 f2) ⟨?_, rfl, List.nodup_cons.mpr ⟨n1, n2⟩, nDd.symm, nrd.symm, n3, nDr, n4⟩ (by omega) (fun p hp => (hx p hp).2)
        refine ⟨by omega, fun z => by rw [z] at rl; simp at rl; omega, by omega, by omega, fun q hq => ?_, fun p hp => (hx p hp).1⟩
        rw [rl]
        exact hrw q hq
theorem mem_vb {rows : List (List Int)} {x : Int} : ∀ {w : List Int} {s : Int}, x ∈ vb rows w s ↔ ∃ r, r < w.length ∧ x = rdw rows (w.take r) s
  | [], s => ⟨fun h => by (cases h), fun ⟨r, h, _⟩ => by (cases h)⟩
  | a :: w, s => by
    constructor
    · intro h
      rcases List.mem_cons.mp h with h | h
      · exact ⟨0, Nat.succ_pos _, h⟩
      · obtain ⟨r, h1, h2⟩ := mem_vb.mp h
        exact ⟨r + 1, Nat.succ_lt_succ h1, h2⟩
    · rintro ⟨r, h1, h2⟩
      cases r with
      | zero => exact List.mem_cons.mpr (.inl h2)
      | succ r => exact List.mem_cons_of_mem _ (mem_vb.mpr ⟨r, Nat.lt_of_succ_lt_succ h1, h2⟩)
section
variable {rows : List (List Int)} {ps h l : List Int} {s b : Int}
theorem qrn_head : ∀ i, i ≤ h.length → qrn rows s (wat h l) i = rdw rows (h.take i) s
  | 0, _ => rfl
  | i + 1, hi => by
    have hl : i < h.length := by omega
    have e : h[i]? = some h[i] := List.getElem?_eq_getElem hl
    rw [rdw_snoc e]
    show tgP rows (qrn rows s (wat h l) i) (wat h l i) = _
    rw [qrn_head i (by omega)]
    unfold wat
    rw [if_pos hl, List.getD_eq_getElem?_getD, e]
    rfl
theorem qrn_loop (hl : l ≠ []) : ∀ j r, r ≤ l.length → qrn rows s (wat h l) (h.length + j * l.length + r) = rdw rows (l.take r) (orb rows l (rdw rows h s) j) := by
  have hp : 0 < l.length := List.length_pos_iff.mpr hl
  have row : ∀ j, qrn rows s (wat h l) (h.length + j * l.length) = orb rows l (rdw rows h s) j → ∀ r, r ≤ l.length → qrn rows s (wat h l) (h.length + j * l.length + r) = rdw rows (l.take r) (orb rows l (rdw rows h s) j) := by
    intro j h0 r
    induction r with
    | zero => exact fun _ => h0
    | succ r ih =>
      intro hr
      have hrl : r < l.length := by omega
      have e : l[r]? = some l[r] := List.getElem?_eq_getElem hrl
      rw [rdw_snoc e]
      show tgP rows (qrn rows s (wat h l) (h.length + j * l.length + r)) (wat h l (h.length + j * l.length + r)) = _
      rw [ih (by omega)]
      unfold wat
      have : (h.length + j * l.length + r - h.length) % l.length = r := by
        rw [show h.length + j * l.length + r - h.length = r + j * l.length by omega, Nat.add_mul_mod_self_right, Nat.mod_eq_of_lt hrl]
      rw [if_neg (by omega), this, List.getD_eq_getElem?_getD, e]
      rfl
  intro j
  induction j with
  | zero =>
    refine row 0 ?_
    rw [Nat.zero_mul, Nat.add_zero, qrn_head _ (Nat.le_refl _), List.take_length]
    rfl
  | succ j ih =>
    refine row (j + 1) ?_
    have := ih l.length (Nat.le_refl _)
    rw [List.take_length] at this
    rw [Nat.succ_mul, ← Nat.add_assoc]
    exact this
theorem bst_even (hl : l ≠ []) (hp : ∀ t, 0 ≤ prP ps t) (B : Bst rows ps l (rdw rows h s) b) : PRun (mvP rows ps) (acP ps) [[s, -1]] (wat h l) ↔ b % 2 = 0 := by
  have hpos : 0 < l.length := List.length_pos_iff.mpr hl
  have up : ∃ k, ∀ j, k ≤ j → prP ps (qrn rows s (wat h l) j) ≤ b := by
    obtain ⟨k, hk⟩ := B.up
    refine ⟨h.length + k * l.length, fun j hj => ?_⟩
    have e : j = h.length + ((j - h.length) / l.length) * l.length + (j - h.length) % l.length := by
      have := Nat.div_add_mod (j - h.length) l.length
      rw [Nat.mul_comm] at this
      omega
    have hr := Nat.mod_lt (j - h.length) hpos
    have hk2 : k ≤ (j - h.length) / l.length := (Nat.le_div_iff_mul_le hpos).mpr (by omega)
    rw [e, qrn_loop hl _ _ (Nat.le_of_lt hr)]
    exact hk _ hk2 _ (mem_vb.mpr ⟨_, hr, rfl⟩)
  have inf : ∀ k, ∃ j, k < j ∧ prP ps (qrn rows s (wat h l) j) = b := fun k => by
    obtain ⟨x, hx, hi⟩ := B.at_
    obtain ⟨j, hj, hm⟩ := hi (k + 1)
    obtain ⟨r, hr, e⟩ := mem_vb.mp hm
    refine ⟨h.length + j * l.length + r, ?_, ?_⟩
    · have : j ≤ j * l.length := Nat.le_mul_of_pos_right j hpos
      omega
    · rw [qrn_loop hl _ _ (Nat.le_of_lt hr), ← e]
      exact hx
  rw [par_prun hp]
  constructor
  · rintro ⟨g, hg, ⟨k, hk⟩, hi⟩
    obtain ⟨k', hk'⟩ := up
    obtain ⟨j, hj, e⟩ := hi k'
    have h1 := hk' j (by omega)
    obtain ⟨j2, hj2, e2⟩ := inf k
    have h2 := hk j2 (by omega)
    rw [show b = g by omega]
    exact hg
  · exact fun hb => ⟨b, hb, up, inf⟩
end
theorem sq3_aut {K : PySem.W.Frag} {H : Hp} {rt : Addr} {as : List Addr} {bss : List (List Addr)} {c : List (List (List Int))} (h4 : H rt = some (.tup (as.map V.ref))) (h5 : CubB .tup H as bss c) : Sq3 K H rt c := by
  refine ⟨_, .inr (.of h4), by rw [List.length_map, (cub_len h5).1], fun i row hi => ?_⟩
  have hil := (List.getElem?_eq_some_iff.mp hi).1
  have hal := (cub_len h5).1
  obtain ⟨a, ha⟩ : ∃ a, as[i]? = some a := ⟨_, List.getElem?_eq_getElem (by omega)⟩
  obtain ⟨bs, row2, h1, h2, h3, h4⟩ := cub_get h5 ha
  rw [hi] at h2
  cases h2
  refine ⟨.ref a, by rw [List.getElem?_map, ha]; rfl, a, _, rfl, .inr (.of h3), by rw [List.length_map, h4.len], fun j ts hj => ?_⟩
  have hjl := (List.getElem?_eq_some_iff.mp hj).1
  have hbl := h4.len
  obtain ⟨b, hb⟩ : ∃ b, bs[j]? = some b := ⟨_, List.getElem?_eq_getElem (by omega)⟩
  obtain ⟨e, h6, h7⟩ := h4.get hb
  rw [hj] at h6
  cases h6
  exact ⟨b, by rw [List.getElem?_map, hb]; rfl, .inr (.of h7)⟩
theorem ll_kp {d r : Addr} {H H' : Hp} {as : List Addr} {rows : List (List Int)} (k : Kp d H H') (n : d ≠ r) (m : d ∉ as) (h : LL H r as rows) : LL H' r as rows := ⟨k _ _ n.symm h.1, h.2.keep fun b o hb e => k _ _ (fun z => m (by rw [← z]; exact hb)) e⟩
theorem tabs0 {H : Hp} (h0 : H PA0 = some (.tbl #[])) (h1 : H PA1 = some (.tbl #[])) : NdefX.TabsN (TbT PA0 PA1) H := fun pp hpp => by
  rcases List.mem_cons.mp hpp with h | h
  · rw [h]; exact NdefX.TabN.nil h0
  · rw [List.mem_singleton.mp h]; exact NdefX.TabN.nil h1
theorem wat_in {L : Int} {h l : List Int} (e1 : ∀ z ∈ h, 0 ≤ z ∧ z < L) (e2 : ∀ z ∈ l, 0 ≤ z ∧ z < L) (hl : l ≠ []) (i : Nat) : 0 ≤ wat h l i ∧ wat h l i < L := by
  have hp : 0 < l.length := List.length_pos_iff.mpr hl
  unfold wat
  split
  · rename_i c
    rw [List.getD_eq_getElem?_getD, List.getElem?_eq_getElem c]
    exact e1 _ (List.getElem_mem _)
  · rw [List.getD_eq_getElem?_getD, List.getElem?_eq_getElem (Nat.mod_lt _ hp)]
    exact e2 _ (List.getElem_mem _)
theorem bd_of {L : Int} {ini acc h l : List Int} {c : List (List (List Int))} (V : VldB L ini acc c) (e1 : ∀ z ∈ h, 0 ≤ z ∧ z < L) (e2 : ∀ z ∈ l, 0 ≤ z ∧ z < L) : Bd c ini h l L :=
  ⟨V.2.2.1.2, fun z hz => (List.mem_append.mp hz).elim (e1 z) (e2 z), fun r hr => ⟨(V.2.2.2.2 r hr).1, fun ts hts t ht => ((V.2.2.2.2 r hr).2 ts hts).2 t ht⟩⟩
theorem row_of {L : Int} {ini acc : List Int} {c : List (List (List Int))} (V : VldB L ini acc c) (hc : c.length ≤ 100) : ∀ row ∈ c, (row.length : Int) = L ∧ ∀ ts ∈ row, ts.length ≤ 100000 ∧ ∀ t ∈ ts, 0 ≤ t ∧ t < (c.length : Int) := fun row hr =>
  ⟨(V.2.2.2.2 row hr).1, fun ts hts => ⟨by have := asc_lt ((V.2.2.2.2 row hr).2 ts hts); omega, ((V.2.2.2.2 row hr).2 ts hts).2⟩⟩
theorem max_of : ∀ {ps : List Int}, ps ≠ [] → (∀ p ∈ ps, 0 ≤ p) → ∃ m : Nat, (m : Int) ∈ ps ∧ ∀ p ∈ ps, p ≤ (m : Int)
  | [], h, _ => absurd rfl h
  | [a], _, h0 => by
    have := h0 a List.mem_cons_self
    exact ⟨a.toNat, by rw [Int.toNat_of_nonneg this]; exact List.mem_cons_self, fun p hp => by rw [List.mem_singleton.mp hp, Int.toNat_of_nonneg this]; exact Int.le_refl _⟩
  | a :: b :: ps, _, h0 => by
    obtain ⟨m, h1, h2⟩ := max_of (ps := b :: ps) (by simp) fun p hp => h0 p (List.mem_cons_of_mem _ hp)
    have ha := h0 a List.mem_cons_self
    rcases Int.lt_or_le (m : Int) a with c | c
    · refine ⟨a.toNat, by rw [Int.toNat_of_nonneg ha]; exact List.mem_cons_self, fun p hp => ?_⟩
      rw [Int.toNat_of_nonneg ha]
      rcases List.mem_cons.mp hp with e | e
      · rw [e]; exact Int.le_refl _
      · have := h2 p e; omega
    · exact ⟨m, List.mem_cons_of_mem _ h1, fun p hp => (List.mem_cons.mp hp).elim (fun e => by rw [e]; exact c) (h2 p)⟩
theorem ok_law {f : Addr} {fd : FuncData} (F : L2.Fun K "law" "law" s_law f fd) (T : Txt K mg cA0 PA0 cA1 PA1) (TB0 : LamX.TabB base mg cA0 PA0) (TB1 : LamX.TabB base mg cA1 PA1) : FnOk P w K mg base CX0 8 f fd ["script"] (spLaw K PA0 PA1) := by
  obtain ⟨cI, C, fI, D, fP, fdI, fdP, eI, PC, hM, gC, F0, hB, PD, hMP, gD, FP, hBP⟩ := T.er
  have MP : MakX P w K mg base 2 "ParityAutomaton" D (spInitP D cI) := ⟨fP, fdP, _, hMP, ok_init T eI PD FP, gD, hBP⟩
  have C_law_draws : C8.Cal P w K mg base 1 "_law_draws" (spDraws K) [] := cal_draws T
  have C_law_take : C8.Cal P w K mg base 1 "_law_take" spTake [] := cal_take T
  have C_law_parity : C8.Cal P w K mg base 2 "_law_parity" spPar [] := cal_parity T
  have C_law_lasso : C8.Cal P w K mg base 2 "_law_lasso" spLasso [] := cal_lasso T
  have C_law_flat : C8.Cal P w K mg base 1 "_law_flat" spFlat [] := cal_flat T
  have C_law_best : C8.Cal P w K mg base 1 "_law_best" spBest [] := cal_best T
  have C_law_accepts : C8.Cal P w K mg base 2 "_law_accepts" (spAcc K) [] := cal_acc T
  have C_law_is_automaton : C8.Cal P w K mg base 4 "_law_is_automaton" (spIsAut C) [] := cal_isaut T PC
  have C_to_buchi : C8.Cal P w K mg base 6 "to_buchi" (spTb C D PA0 PA1) [] := cal_tb T TB0 TB1 eI PC PD hM gC F0 hB
  refine F.ok sc_law (fun vs H Q E h => ?_) (fun cdv A outer s H vs Q E hr h => ?_)
  · obtain ⟨a, ns, rfl, _⟩ := h
    rfl
  · obtain ⟨sa, ns, rfl, hS, hlen, hP0, hP1, q⟩ := h
    refine ⟨_, (pss_cons
      (ps_set (i := 1) sc_law.nd rfl (Or.inl rfl) (C8.pe_c C_law_draws hr (by decide) (by rfl) (pa_cons (pv 0) (pa_cons pe_int pa_nil))))
      (pss_cons
      (ps_set (i := 2) sc_law.nd rfl (Or.inl rfl) (pe_op op_add pe_int (C8.pe_c C_law_take hr (by decide) (by rfl) (pa_cons (pv 1) (pa_cons pe_int pa_nil)))))
      (pss_cons
      (ps_asg (C8.pe_c C_law_parity hr (by decide) (by rfl) (pa_cons (pv 1) (pa_cons (pv 2) (pa_cons pe_int pa_nil)))) (pg_tup (by rfl) (pgs_cons (pg_name (i := 3) sc_law.nd rfl (.inl rfl)) (pgs_cons (pg_name (i := 4) sc_law.nd rfl (.inl rfl)) (pgs_cons (pg_name (i := 5) sc_law.nd rfl (.inl rfl)) pgs_nil)))))
      (pss_cons
      (ps_set (i := 6) sc_law.nd rfl (Or.inl rfl) (C8.pe_c C_law_lasso hr (by decide) (by rfl) (pa_cons (pv 1) (pa_cons (pv 2) (pa_cons pe_int pa_nil)))))
      (pss_cons
      (ps_set (i := 7) sc_law.nd rfl (Or.inl rfl) (C8.pe_c C_to_buchi hr (by decide) (by rfl) (pa_cons (pe_makeN MP hr (by decide) (by rfl) (pa_cons (pv 2) (pa_cons (pv 3) (pa_cons (pe_callTy (call_list_ofK (K := K) rfl) (by rfl) T.z_list (by decide +kernel) (pa_cons (pv 4) pa_nil)) (pa_cons (C8.pe_c C_law_flat hr (by decide) (by rfl) (pa_cons (pv 5) pa_nil)) pa_nil))))) pa_nil)))
      (pss_cons
      (ps_if (PW.pt (pw_or (pt_not (pt_val (C8.pe_c C_law_is_automaton hr (by decide) (by rfl) (pa_cons (pv 7) (pa_cons (pv 2) pa_nil))))) (pw_or1 (pt_cmpR op_gt (pe_callB (call_lenK (K := K) rfl) (by rfl) T.z_len PySem.boot_len (pa_cons (pe_fld (pv 7) rfl) pa_nil)) (pe_op op_mul (pe_callB (call_lenK (K := K) rfl) (by rfl) T.z_len PySem.boot_len (pa_cons (pv 5) pa_nil)) (pe_op op_add (pe_callB (call_maxK (K := K) rfl rfl) (by rfl) T.z_max (by decide +kernel) (pa_cons (pv 4) pa_nil)) pe_int)) (nomark _))))) (pss_one
      (ps_ret pe_bl)) pss_nil)
      (pss_cons
      (ps_set (i := 8) sc_law.nd rfl (Or.inl rfl) (pe_cmpR op_eq (pe_op op_mod (pe_callTy call_int1 (by rfl) T.z_int (by decide +kernel) (pa_cons (C8.pe_c C_law_best hr (by decide) (by rfl) (pa_cons (pv 3) (pa_cons (pv 4) (pa_cons (pv 5) (pa_cons (pv 6) pa_nil))))) pa_nil)) pe_int) pe_int (nomark _)))
      (pss_one
      (ps_ret (pe_cmpR op_eq (C8.pe_c C_law_accepts hr (by decide) (by rfl) (pa_cons (pe_fld (pv 7) rfl) (pa_cons (pe_fld (pv 7) rfl) (pa_cons (pe_fld (pv 7) rfl) (pa_cons (pv 6) pa_nil))))) (pv 8) (nomark _))))))))))), ?_⟩
    refine ⟨_, rfl, sa, ns, 100, rfl, hS, by decide, fun H1 d s1 hd0 d1 => ?_⟩
    have n0d : PA0 ≠ d := fun z => by rw [z, hd0] at hP0; cases hP0
    have n1d : PA1 ≠ d := fun z => by rw [z, hd0] at hP1; cases hP1
    have hP0 := s1 _ _ hP0
    have hP1 := s1 _ _ hP1
    refine ⟨_, rfl, d, 3, rfl, d1, by decide, fun l ds l0 l1 => ?_⟩
    have k2 : Kp d H1 (upd H1 d (.lst (ds.map V.int))) := Kp.own
    have d2 : Drw (upd H1 d (.lst (ds.map V.int))) d := Drw.own
    generalize upd H1 d (.lst (ds.map V.int)) = H2 at k2 d2 ⊢
    have hP0 := k2 _ _ n0d hP0
    have hP1 := k2 _ _ n1d hP1
    clear d1 s1 hd0 k2
    refine ⟨_, _, rfl, rfl, ?_⟩
    show gName 2 (V.int (1 + l)) _ _ _
    have hL1 : 1 ≤ 1 + l := by omega
    have hL3 : 1 + l ≤ 3 := by omega
    generalize 1 + l = L at hL1 hL3 ⊢
    refine ⟨_, rfl, _, rfl, d, L, 5, rfl, d2, by omega, by omega, by omega, by omega, fun H3 t pp r as st ps rows k3 d3 et hp hL G bm hp3 => ?_⟩
    have hP0 := k3 _ _ n0d hP0
    have hP1 := k3 _ _ n1d hP1
    have V1 := G.1
    have g1 := G.2.2.2.1
    have g2 := G.2.2.2.2.1
    have g3 := G.2.2.2.2.2.1
    refine ⟨t, _, rfl, .of et, rfl, _, _, rfl, _, _, rfl, _, _, rfl, rfl, ?_⟩
    clear k3 d2 et
    refine ⟨_, rfl, _, rfl, d, L, 3, rfl, d3, by omega, by decide, by decide, fun H4 p h l k4 d4 L4 hh hne hl hxh hxl => ?_⟩
    have hp4 := hp_kp k4 g1 hp
    have hL4 := ll_kp k4 g2 g3 hL
    have hP0 := k4 _ _ n0d hP0
    have hP1 := k4 _ _ n1d hP1
    clear k4 d3 hp hL d4
    have hpl : ps.length ≤ 5 := by have := V1.2.2.1; omega
    refine ⟨_, rfl, _, rfl, _, rfl, pp, _, rfl, .inl (.of hp4), fun p2 np2 => ?_⟩
    generalize hX : upd H4 p2 _ = H5; obtain ⟨sH5, ep2⟩ := nw np2 hX; clear hX
    refine ⟨_, rfl, r, as, rows, rfl, LL.same sH5 hL4, by omega, fun H6 r' as' hcp => ?_⟩
    obtain ⟨s6, hL6, _⟩ := hcp
    refine fun x dx hx hdx hne' => ?_
    have s7 := same_fresh (C := D) hx hdx
    refine ⟨x, p2, r', dx, L, st, ps, as', rows, rfl, upd_same, s7 _ _ (s6 _ _ ep2), .inl (s7 _ _ hL6.1), (hL6.2.q1).same s7, by omega, by omega, fun q hq => by have := (V1.2.2.2.2.1 q hq).1; omega, fun z => absurd V1 z, fun _ H7 k7 A7 => ⟨rfl, ?_⟩⟩
    have s47 : Same H4 H7 := (sH5.trans s6).trans (same_made hx hdx k7)
    clear s7 k7 hx hdx hne' s6 sH5 ep2 np2 hL6
    have hTb := tabs0 (s47 _ _ hP0) (s47 _ _ hP1)
    have hrn : 0 < rows.length := List.length_pos_iff.mpr V1.2.1
    obtain ⟨m, hm1, hm2⟩ := max_of (ps := ps) (fun z => by have := V1.2.2.1; rw [z] at this; have : 0 = rows.length := this; omega) V1.2.2.2.2.2
    have hm3 : m ≤ 3 := by have := hp3 _ hm1; omega
    have hnm : rows.length * (m + 2) ≤ 5 * 5 := Nat.mul_le_mul bm (by omega)
    refine ⟨x, L, st, ps, rows, m, rfl, A7, V1, hm2, by omega, by omega, by omega, hTb, fun H8 z ns ini acc c us x8 tb8 hBu hU A8 => ?_⟩
    have x48 := ext_trans (ext_of s47) x8
    have hp8 := x48 _ _ hp4 (pl_l _).1
    have hL8 : LL H8 r as rows := ⟨x48 _ _ hL4.1 (pl_l _).1, rows_ko pl_l (.of x48) hL4.2⟩
    have L8 := las_ext x48 L4
    clear x48 x8 s47 hTb tb8 hp4 hL4 L4 A7 hP0 hP1
    have hcl : c.length ≤ rows.length * (m + 2) := by
      have := bu_len hBu (U := unP rows.length m) (fun k hk => by
        rw [List.mem_singleton.mp hk]
        have := V1.2.2.2.1
        exact mem_unP.mpr ⟨st.toNat, -1, by omega, by omega, by omega, by rw [Int.toNat_of_nonneg this.1]⟩) (mvP_cl V1 hm2)
      rwa [unP_len] at this
    have hV := trm_vld hBu.vld hU
    have htl := trm_len (L := L) hU hBu.vld.2.1
    have hti := asc_lt hV.2.2.1
    have hta := asc_lt hV.2.2.2.1
    have bB := bd_of hV hxh hxl
    have wB := accV_iff (acc := ren us acc) bB hne
    rw [trim_run hBu.vld hU, bu_run hBu (wat_in hxh hxl hne)] at wB
    obtain ⟨dz, itz, atz, rtz, asz, bssz, ez1, ez2, ez3, ez4, ez5⟩ := id A8
    have ezl : (asz.map V.ref).length = (trmC L us c).length := by rw [List.length_map, (cub_len ez5).1]
    have erl : (as.map V.ref).length = rows.length := by rw [List.length_map, hL8.2.len]
    refine ⟨_, rfl, _, rfl, z, L, _, _, _, rfl, A8, hV, by omega, by omega, fun r hr e he => by have := asc_lt ((hV.2.2.2.2 r hr).2 e he); omega, true, rfl, iteB_f (c := !true) rfl ?_⟩
    refine ⟨_, rfl, z, C, dz, _, _, rfl, ez1, PC.cl, PC.nR, bf_r _ _ _ _, rtz, _, rfl, .inr (.of ez4), _, rfl, r, _, rfl, .inl (.of hL8.1), _, rfl, pp, ps, rfl, .of hp8, by have := V1.2.2.1; omega, fun mx hx1 hx2 => ?_⟩
    have emx : mx = (m : Int) := Int.le_antisymm (hm2 mx hx1) (hx2 _ hm1)
    subst emx
    refine ⟨_, _, rfl, rfl, _, _, rfl, rfl, .inl (by rw [erl]; constructor <;> omega), _, _, rfl, rfl, _, rfl, ite_lt (fun cc => ?_) (fun _ => ?_)⟩
    · rw [erl, ezl, show (rows.length : Int) * ((m : Int) + 2) = ((rows.length * (m + 2) : Nat) : Int) by rw [Int.natCast_mul]; rfl] at cc
      omega
    refine ⟨_, rfl, _, rfl, _, rfl, _, rfl, pp, r, p, as, L, st, ps, rows, h, l, rfl, hp8, hL8, V1, by omega, L8, hne, fun a ha => ha.elim (hxh a) (hxl a), fun b hb => ?_⟩
    rw [bst_even hne (prP_in V1) hb] at wB
    refine .inl ⟨b, rfl, ?_⟩
    refine ⟨_, _, rfl, rfl, (show (0 : Int) < 2 by decide), rfl, ?_⟩
    have hbb : decide (V.int (b % 2) = V.int 0) = decide (b % 2 = 0) := by
      rw [decide_eq_decide]
      exact ⟨fun h => V.int.inj h, fun h => by rw [h]⟩
    refine ⟨_, rfl, z, C, dz, _, _, rfl, ez1, PC.cl, PC.nR, bf_r _ _ _ _, _, rfl, z, C, dz, _, _, rfl, ez1, PC.cl, PC.nI, bf_i _ _ _ _, _, rfl, z, C, dz, _, _, rfl, ez1, PC.cl, PC.nA, bf_a _ _ _ _, _, rfl, rtz, itz, atz, p, _, _, _, h, l, L, rfl, sq3_aut ez4 ez5, .inr (.of ez2), .inr (.of ez3), L8, hne, by omega, by omega, by omega, by omega, hV.2.2.1.2, bB.let_, row_of hV (by omega), fun H9 s9 => ⟨_, rfl, rfl, ?_⟩⟩
    have hacc : accV (trmC L us c) (ren us ini) (ren us acc) h l = decide (b % 2 = 0) := by rw [Bool.eq_iff_iff, decide_eq_true_iff]; exact wB
    rw [hacc]
    show Q (.bl (decide (V.bl (decide (b % 2 = 0)) = V.bl (decide (V.int (b % 2) = V.int 0))))) H9
    rw [hbb, decide_eq_true rfl]
    exact q _
end

theorem all_mk {l : PySem.W.OpenLaw} {w : World} {K : PySem.W.Frag} {h : Heap} {mg : Str → Option Value} {fa : Addr} {f0 f1 f2 f3 f4 f5 f6 f7 f8 f9 f10 f11 f12 f13 f14 f15 f16 f17 f18 f19 f20 f21 f22 f23 f24 f25 f26 f27 cA0 PA0 cA1 PA1 cI C fI D fP : Addr} (X : K.In h) (G : h.Ns mainGlobals mg) (hfa : mg "law" = some (.ref fa))
    {od0 an0 od1 an1 od2 an2 od3 an3 od4 an4 od5 an5 od6 an6 od7 an7 od8 an8 od9 an9 od10 an10 od11 an11 od12 an12 od13 an13 od14 an14 od15 an15 od16 an16 od17 an17 od18 an18 od19 an19 od20 an20 od21 an21 od22 an22 od23 an23 od24 an24 od25 an25 od26 an26 od27 an27 : Option Addr} {sl0 sl1 sl2 sl3 sl4 sl5 sl6 sl7 sl8 sl9 sl10 sl11 sl12 sl13 sl14 sl15 sl16 sl17 sl18 sl19 sl20 sl21 sl22 sl23 sl24 sl25 sl26 sl27 : Array (Option Value)} {oc0 kV0 dc0 pm0 cd0 ct0 oc1 kV1 dc1 pm1 cd1 ct1 oc2 kV2 dc2 pm2 cd2 ct2 oc3 kV3 dc3 pm3 cd3 ct3 oc4 kV4 dc4 pm4 cd4 ct4 oc5 kV5 dc5 pm5 cd5 ct5 oc6 kV6 dc6 pm6 cd6 ct6 oc7 kV7 dc7 pm7 cd7 ct7 oc8 kV8 dc8 pm8 ct8 oc9 kV9 dc9 pm9 cd9 ct9 oc10 kV10 dc10 pm10 cd10 ct10 oc11 kV11 dc11 pm11 cd11 ct11 oc12 kV12 dc12 pm12 cd12 ct12 oc13 kV13 dc13 pm13 cd13 ct13 oc14 kV14 dc14 pm14 ct14 oc15 kV15 dc15 pm15 cd15 ct15 oc16 kV16 dc16 pm16 cd16 ct16 oc17 kV17 dc17 pm17 cd17 ct17 oc18 kV18 dc18 pm18 cd18 ct18 oc19 kV19 dc19 pm19 cd19 ct19 oc20 kV20 dc20 pm20 cd20 ct20 oc21 kV21 dc21 pm21 cd21 ct21 oc22 kV22 dc22 pm22 cd22 ct22 oc23 kV23 dc23 pm23 cd23 ct23 oc24 kV24 dc24 pm24 cd24 ct24 oc25 kV25 dc25 pm25 cd25 ct25 oc26 kV26 dc26 pm26 cd26 ct26 oc27 kV27 dc27 pm27 cd27 ct27 : Value} {odI anI : Option Addr} {slI : Array (Option Value)} {ocI kVI dcI pmI cdI ctI : Value} {odP anP : Option Addr} {slP : Array (Option Value)} {ocP kVP dcP pmP cdP ctP : Value}
    (a0 : PySem.W.nsIn K mainGlobals "explore" = some (some (.ref f0))) (l0 : K.lookup f0 = some ⟨oc0, od0, .func (PySem.W.fnOf "explore" "explore" (defArgs s_explore) (defBody s_explore) (defScope s_explore) .none kV0 dc0 pm0 an0 cd0 ct0), sl0⟩) (c0 : PySem.W.codeIn K cd0 "explore" = true) (k0 : PySem.W.keepIn K (.ref f0) = true)
    (a1 : PySem.W.nsIn K mainGlobals "reachable" = some (some (.ref f1))) (l1 : K.lookup f1 = some ⟨oc1, od1, .func (PySem.W.fnOf "reachable" "reachable" (defArgs s_reachable) (defBody s_reachable) (defScope s_reachable) .none kV1 dc1 pm1 an1 cd1 ct1), sl1⟩) (c1 : PySem.W.codeIn K cd1 "reachable" = true) (k1 : PySem.W.keepIn K (.ref f1) = true)
    (a2 : PySem.W.nsIn K mainGlobals "reversed_graph" = some (some (.ref f2))) (l2 : K.lookup f2 = some ⟨oc2, od2, .func (PySem.W.fnOf "reversed_graph" "reversed_graph" (defArgs s_reversed_graph) (defBody s_reversed_graph) (defScope s_reversed_graph) .none kV2 dc2 pm2 an2 cd2 ct2), sl2⟩) (c2 : PySem.W.codeIn K cd2 "reversed_graph" = true) (k2 : PySem.W.keepIn K (.ref f2) = true)
    (a3 : PySem.W.nsIn K mainGlobals "finishing_order" = some (some (.ref f3))) (l3 : K.lookup f3 = some ⟨oc3, od3, .func (PySem.W.fnOf "finishing_order" "finishing_order" (defArgs s_finishing_order) (defBody s_finishing_order) (defScope s_finishing_order) .none kV3 dc3 pm3 an3 cd3 ct3), sl3⟩) (c3 : PySem.W.codeIn K cd3 "finishing_order" = true) (k3 : PySem.W.keepIn K (.ref f3) = true)
    (a4 : PySem.W.nsIn K mainGlobals "components" = some (some (.ref f4))) (l4 : K.lookup f4 = some ⟨oc4, od4, .func (PySem.W.fnOf "components" "components" (defArgs s_components) (defBody s_components) (defScope s_components) .none kV4 dc4 pm4 an4 cd4 ct4), sl4⟩) (c4 : PySem.W.codeIn K cd4 "components" = true) (k4 : PySem.W.keepIn K (.ref f4) = true)
    (a5 : PySem.W.nsIn K mainGlobals "on_cycles" = some (some (.ref f5))) (l5 : K.lookup f5 = some ⟨oc5, od5, .func (PySem.W.fnOf "on_cycles" "on_cycles" (defArgs s_on_cycles) (defBody s_on_cycles) (defScope s_on_cycles) .none kV5 dc5 pm5 an5 cd5 ct5), sl5⟩) (c5 : PySem.W.codeIn K cd5 "on_cycles" = true) (k5 : PySem.W.keepIn K (.ref f5) = true)
    (a6 : PySem.W.nsIn K mainGlobals "check_states" = some (some (.ref f6))) (l6 : K.lookup f6 = some ⟨oc6, od6, .func (PySem.W.fnOf "check_states" "check_states" (defArgs s_check_states) (defBody s_check_states) (defScope s_check_states) .none kV6 dc6 pm6 an6 cd6 ct6), sl6⟩) (c6 : PySem.W.codeIn K cd6 "check_states" = true) (k6 : PySem.W.keepIn K (.ref f6) = true)
    (a7 : PySem.W.nsIn K mainGlobals "empty_automaton" = some (some (.ref f7))) (l7 : K.lookup f7 = some ⟨oc7, od7, .func (PySem.W.fnOf "empty_automaton" "empty_automaton" (defArgs s_empty_automaton) (defBody s_empty_automaton) (defScope s_empty_automaton) .none kV7 dc7 pm7 an7 cd7 ct7), sl7⟩) (c7 : PySem.W.codeIn K cd7 "empty_automaton" = true) (k7 : PySem.W.keepIn K (.ref f7) = true)
    (a8 : PySem.W.nsIn K mainGlobals "built_automaton" = some (some (.ref f8))) (l8 : K.lookup f8 = some ⟨oc8, od8, .func (PySem.W.fnOf "built_automaton" "built_automaton" (defArgs s_built_automaton) (defBody s_built_automaton) (defScope s_built_automaton) .none kV8 dc8 pm8 an8 (.ref cA0) ct8), sl8⟩) (c8 : PySem.W.codeIn K (.ref cA0) "built_automaton" = true) (k8 : PySem.W.keepIn K (.ref f8) = true)
    (a9 : PySem.W.nsIn K mainGlobals "state_graph" = some (some (.ref f9))) (l9 : K.lookup f9 = some ⟨oc9, od9, .func (PySem.W.fnOf "state_graph" "state_graph" (defArgs s_state_graph) (defBody s_state_graph) (defScope s_state_graph) .none kV9 dc9 pm9 an9 cd9 ct9), sl9⟩) (c9 : PySem.W.codeIn K cd9 "state_graph" = true) (k9 : PySem.W.keepIn K (.ref f9) = true)
    (a10 : PySem.W.nsIn K mainGlobals "trim" = some (some (.ref f10))) (l10 : K.lookup f10 = some ⟨oc10, od10, .func (PySem.W.fnOf "trim" "trim" (defArgs s_trim) (defBody s_trim) (defScope s_trim) .none kV10 dc10 pm10 an10 cd10 ct10), sl10⟩) (c10 : PySem.W.codeIn K cd10 "trim" = true) (k10 : PySem.W.keepIn K (.ref f10) = true)
    (a11 : PySem.W.nsIn K mainGlobals "renumbered" = some (some (.ref f11))) (l11 : K.lookup f11 = some ⟨oc11, od11, .func (PySem.W.fnOf "renumbered" "renumbered" (defArgs s_renumbered) (defBody s_renumbered) (defScope s_renumbered) .none kV11 dc11 pm11 an11 cd11 ct11), sl11⟩) (c11 : PySem.W.codeIn K cd11 "renumbered" = true) (k11 : PySem.W.keepIn K (.ref f11) = true)
    (a12 : PySem.W.nsIn K mainGlobals "useful_states" = some (some (.ref f12))) (l12 : K.lookup f12 = some ⟨oc12, od12, .func (PySem.W.fnOf "useful_states" "useful_states" (defArgs s_useful_states) (defBody s_useful_states) (defScope s_useful_states) .none kV12 dc12 pm12 an12 cd12 ct12), sl12⟩) (c12 : PySem.W.codeIn K cd12 "useful_states" = true) (k12 : PySem.W.keepIn K (.ref f12) = true)
    (a13 : PySem.W.nsIn K mainGlobals "check_state" = some (some (.ref f13))) (l13 : K.lookup f13 = some ⟨oc13, od13, .func (PySem.W.fnOf "check_state" "check_state" (defArgs s_check_state) (defBody s_check_state) (defScope s_check_state) .none kV13 dc13 pm13 an13 cd13 ct13), sl13⟩) (c13 : PySem.W.codeIn K cd13 "check_state" = true) (k13 : PySem.W.keepIn K (.ref f13) = true)
    (a14 : PySem.W.nsIn K mainGlobals "to_buchi" = some (some (.ref f14))) (l14 : K.lookup f14 = some ⟨oc14, od14, .func (PySem.W.fnOf "to_buchi" "to_buchi" (defArgs s_to_buchi) (defBody s_to_buchi) (defScope s_to_buchi) .none kV14 dc14 pm14 an14 (.ref cA1) ct14), sl14⟩) (c14 : PySem.W.codeIn K (.ref cA1) "to_buchi" = true) (k14 : PySem.W.keepIn K (.ref f14) = true)
    (a15 : PySem.W.nsIn K mainGlobals "_law_draws" = some (some (.ref f15))) (l15 : K.lookup f15 = some ⟨oc15, od15, .func (PySem.W.fnOf "_law_draws" "_law_draws" (defArgs s_law_draws) (defBody s_law_draws) (defScope s_law_draws) .none kV15 dc15 pm15 an15 cd15 ct15), sl15⟩) (c15 : PySem.W.codeIn K cd15 "_law_draws" = true) (k15 : PySem.W.keepIn K (.ref f15) = true)
    (a16 : PySem.W.nsIn K mainGlobals "_law_take" = some (some (.ref f16))) (l16 : K.lookup f16 = some ⟨oc16, od16, .func (PySem.W.fnOf "_law_take" "_law_take" (defArgs s_law_take) (defBody s_law_take) (defScope s_law_take) .none kV16 dc16 pm16 an16 cd16 ct16), sl16⟩) (c16 : PySem.W.codeIn K cd16 "_law_take" = true) (k16 : PySem.W.keepIn K (.ref f16) = true)
    (a17 : PySem.W.nsIn K mainGlobals "_law_is_integer" = some (some (.ref f17))) (l17 : K.lookup f17 = some ⟨oc17, od17, .func (PySem.W.fnOf "_law_is_integer" "_law_is_integer" (defArgs s_law_is_integer) (defBody s_law_is_integer) (defScope s_law_is_integer) .none kV17 dc17 pm17 an17 cd17 ct17), sl17⟩) (c17 : PySem.W.codeIn K cd17 "_law_is_integer" = true) (k17 : PySem.W.keepIn K (.ref f17) = true)
    (a18 : PySem.W.nsIn K mainGlobals "_law_integers" = some (some (.ref f18))) (l18 : K.lookup f18 = some ⟨oc18, od18, .func (PySem.W.fnOf "_law_integers" "_law_integers" (defArgs s_law_integers) (defBody s_law_integers) (defScope s_law_integers) .none kV18 dc18 pm18 an18 cd18 ct18), sl18⟩) (c18 : PySem.W.codeIn K cd18 "_law_integers" = true) (k18 : PySem.W.keepIn K (.ref f18) = true)
    (a19 : PySem.W.nsIn K mainGlobals "_law_lasso" = some (some (.ref f19))) (l19 : K.lookup f19 = some ⟨oc19, od19, .func (PySem.W.fnOf "_law_lasso" "_law_lasso" (defArgs s_law_lasso) (defBody s_law_lasso) (defScope s_law_lasso) .none kV19 dc19 pm19 an19 cd19 ct19), sl19⟩) (c19 : PySem.W.codeIn K cd19 "_law_lasso" = true) (k19 : PySem.W.keepIn K (.ref f19) = true)
    (a20 : PySem.W.nsIn K mainGlobals "_law_lives" = some (some (.ref f20))) (l20 : K.lookup f20 = some ⟨oc20, od20, .func (PySem.W.fnOf "_law_lives" "_law_lives" (defArgs s_law_lives) (defBody s_law_lives) (defScope s_law_lives) .none kV20 dc20 pm20 an20 cd20 ct20), sl20⟩) (c20 : PySem.W.codeIn K cd20 "_law_lives" = true) (k20 : PySem.W.keepIn K (.ref f20) = true)
    (a21 : PySem.W.nsIn K mainGlobals "_law_flat" = some (some (.ref f21))) (l21 : K.lookup f21 = some ⟨oc21, od21, .func (PySem.W.fnOf "_law_flat" "_law_flat" (defArgs s_law_flat) (defBody s_law_flat) (defScope s_law_flat) .none kV21 dc21 pm21 an21 cd21 ct21), sl21⟩) (c21 : PySem.W.codeIn K cd21 "_law_flat" = true) (k21 : PySem.W.keepIn K (.ref f21) = true)
    (a22 : PySem.W.nsIn K mainGlobals "_law_accepts" = some (some (.ref f22))) (l22 : K.lookup f22 = some ⟨oc22, od22, .func (PySem.W.fnOf "_law_accepts" "_law_accepts" (defArgs s_law_accepts) (defBody s_law_accepts) (defScope s_law_accepts) .none kV22 dc22 pm22 an22 cd22 ct22), sl22⟩) (c22 : PySem.W.codeIn K cd22 "_law_accepts" = true) (k22 : PySem.W.keepIn K (.ref f22) = true)
    (a23 : PySem.W.nsIn K mainGlobals "_law_states" = some (some (.ref f23))) (l23 : K.lookup f23 = some ⟨oc23, od23, .func (PySem.W.fnOf "_law_states" "_law_states" (defArgs s_law_states) (defBody s_law_states) (defScope s_law_states) .none kV23 dc23 pm23 an23 cd23 ct23), sl23⟩) (c23 : PySem.W.codeIn K cd23 "_law_states" = true) (k23 : PySem.W.keepIn K (.ref f23) = true)
    (a24 : PySem.W.nsIn K mainGlobals "_law_is_automaton" = some (some (.ref f24))) (l24 : K.lookup f24 = some ⟨oc24, od24, .func (PySem.W.fnOf "_law_is_automaton" "_law_is_automaton" (defArgs s_law_is_automaton) (defBody s_law_is_automaton) (defScope s_law_is_automaton) .none kV24 dc24 pm24 an24 cd24 ct24), sl24⟩) (c24 : PySem.W.codeIn K cd24 "_law_is_automaton" = true) (k24 : PySem.W.keepIn K (.ref f24) = true)
    (a25 : PySem.W.nsIn K mainGlobals "_law_parity" = some (some (.ref f25))) (l25 : K.lookup f25 = some ⟨oc25, od25, .func (PySem.W.fnOf "_law_parity" "_law_parity" (defArgs s_law_parity) (defBody s_law_parity) (defScope s_law_parity) .none kV25 dc25 pm25 an25 cd25 ct25), sl25⟩) (c25 : PySem.W.codeIn K cd25 "_law_parity" = true) (k25 : PySem.W.keepIn K (.ref f25) = true)
    (a26 : PySem.W.nsIn K mainGlobals "_law_best" = some (some (.ref f26))) (l26 : K.lookup f26 = some ⟨oc26, od26, .func (PySem.W.fnOf "_law_best" "_law_best" (defArgs s_law_best) (defBody s_law_best) (defScope s_law_best) .none kV26 dc26 pm26 an26 cd26 ct26), sl26⟩) (c26 : PySem.W.codeIn K cd26 "_law_best" = true) (k26 : PySem.W.keepIn K (.ref f26) = true)
    (a27 : PySem.W.nsIn K mainGlobals "law" = some (some (.ref f27))) (l27 : K.lookup f27 = some ⟨oc27, od27, .func (PySem.W.fnOf "law" "law" (defArgs s_law) (defBody s_law) (defScope s_law) .none kV27 dc27 pm27 an27 cd27 ct27), sl27⟩) (c27 : PySem.W.codeIn K cd27 "law" = true) (k27 : PySem.W.keepIn K (.ref f27) = true)
    (z0 : PySem.W.nsIn K mainGlobals "bool" = some none) (z1 : PySem.W.nsIn K mainGlobals "enumerate" = some none) (z2 : PySem.W.nsIn K mainGlobals "int" = some none) (z3 : PySem.W.nsIn K mainGlobals "isinstance" = some none) (z4 : PySem.W.nsIn K mainGlobals "len" = some none) (z5 : PySem.W.nsIn K mainGlobals "list" = some none) (z6 : PySem.W.nsIn K mainGlobals "max" = some none) (z7 : PySem.W.nsIn K mainGlobals "min" = some none) (z8 : PySem.W.nsIn K mainGlobals "range" = some none) (z9 : PySem.W.nsIn K mainGlobals "set" = some none) (z10 : PySem.W.nsIn K mainGlobals "sorted" = some none) (z11 : PySem.W.nsIn K mainGlobals "tuple" = some none) (xa : PySem.W.nsIn K mainGlobals "InvalidAutomaton" = some (some (.ref cI))) (xb : PySem.W.excIn K cI [.type "ValueError", .type "Exception", .type "BaseException", .type "object"] "ValueError.__new__" = true) (xc : PySem.W.keepIn K (.ref cI) = true) (xd : PySem.W.typeIn K (.ref cI) = some (.type "type")) (xe : PySem.W.subIn K (.ref cI) (.ref cI) = some true) (xf : PySem.W.findIn K (.ref cI) "__getattribute__" = some (some (.builtin "BaseException.__getattribute__"))) (xg : PySem.W.findIn K (.ref cI) "__getattr__" = some none) (xh : PySem.W.subIn K (.ref cI) (.type "BaseException") = some true) (xi : PySem.W.hasDictIn K cI = true) (xj : PySem.W.findIn K (.ref cI) "__class__" = some (some (.builtin "object.__class__"))) (xk : PySem.W.specialIn K (.builtin "object.__class__") "__get__" = some (some (.builtin "getset_descriptor.__get__"))) (xl : PySem.W.takesIn K (.builtin "object.__class__") = some true) (xm : PySem.W.mroIn K cI (.type "object") = some true) (ya : PySem.W.nsIn K mainGlobals "Automaton" = some (some (.ref C))) (yb : PySem.W.plainGet K C Str.empty = true) (yc : PySem.W.hasDictIn K C = true) (yd : PySem.W.plainOver K C = true) (ye : PySem.W.findIn K (.ref C) "__setattr__" = some (some (.builtin "object.__setattr__"))) (yf : PySem.W.findIn K (.ref C) "letters" = some none) (yg : PySem.W.findIn K (.ref C) "initial" = some none) (yh : PySem.W.findIn K (.ref C) "accepting" = some none) (yi : PySem.W.findIn K (.ref C) "rows" = some none) (yj : PySem.W.makesIn K C = true) (yk : PySem.W.findIn K (.ref C) "__init__" = some (some (.ref fI))) (yl : PySem.W.isFn K (.ref fI) = true) (ym : PySem.W.keepIn K (.ref C) = true) (yn : K.lookup fI = some ⟨ocI, odI, .func (PySem.W.fnOf "__init__" "Automaton.__init__" (defArgs s_Automaton_init) (defBody s_Automaton_init) (defScope s_Automaton_init) .none kVI dcI pmI anI cdI ctI), slI⟩) (yo : PySem.W.codeIn K cdI "Automaton.__init__" = true) (yp : PySem.W.keepIn K (.ref fI) = true) (yq : PySem.W.findIn K (.ref C) "__class__" = some (some (.builtin "object.__class__"))) (yr : PySem.W.specialIn K (.builtin "object.__class__") "__get__" = some (some (.builtin "getset_descriptor.__get__"))) (ys : PySem.W.takesIn K (.builtin "object.__class__") = some true) (yt : PySem.W.mroIn K C (.type "object") = some true) (xu : PySem.W.kitOne K (.ref C) (.ref C) = some true) (ppa : PySem.W.nsIn K mainGlobals "ParityAutomaton" = some (some (.ref D))) (ppb : PySem.W.plainGet K D Str.empty = true) (ppc : PySem.W.hasDictIn K D = true) (ppd : PySem.W.plainOver K D = true) (ppe : PySem.W.findIn K (.ref D) "__setattr__" = some (some (.builtin "object.__setattr__"))) (ppf : PySem.W.findIn K (.ref D) "letters" = some none) (ppg : PySem.W.findIn K (.ref D) "start" = some none) (pph : PySem.W.findIn K (.ref D) "priorities" = some none) (ppi : PySem.W.findIn K (.ref D) "rows" = some none) (ppj : PySem.W.makesIn K D = true) (ppk : PySem.W.findIn K (.ref D) "__init__" = some (some (.ref fP))) (ppl : PySem.W.isFn K (.ref fP) = true) (ppm : PySem.W.keepIn K (.ref D) = true) (ppn : K.lookup fP = some ⟨ocP, odP, .func (PySem.W.fnOf "__init__" "ParityAutomaton.__init__" (defArgs s_ParityAutomaton_init) (defBody s_ParityAutomaton_init) (defScope s_ParityAutomaton_init) .none kVP dcP pmP anP cdP ctP), slP⟩) (ppo : PySem.W.codeIn K cdP "ParityAutomaton.__init__" = true) (ppp : PySem.W.keepIn K (.ref fP) = true)  (tc0 : Clo.codeTab K cA0 = some PA0) (th0 : PySem.W.codeHdIn K cA0 PA0 = true) (tn0 : K.lookup PA0 = none) (te0 : h.get? PA0 = some { cls := .none, data := .fields #[] }) (tc1 : Clo.codeTab K cA1 = some PA1) (th1 : PySem.W.codeHdIn K cA1 PA1 = true) (tn1 : K.lookup PA1 = none) (te1 : h.get? PA1 = some { cls := .none, data := .fields #[] }) (pn : PA0 ≠ PA1) :
    LamX.LawAtS l w K CX0 8 63 "script" mg fa h := by
  have e := hfa.symm.trans (PySem.W.mg_of X G a27)
  cases e
  have T : Txt K mg cA0 PA0 cA1 PA1 := ⟨⟨f0, _, fun_mk (st := s_explore) l0 c0 k0, PySem.W.mg_of X G a0, (fun_mk (st := s_explore) l0 c0 k0).binds fun _ _ _ _ _ _ us hl => match us, hl with | [_, _], _ => rfl⟩, ⟨f1, _, fun_mk (st := s_reachable) l1 c1 k1, PySem.W.mg_of X G a1, (fun_mk (st := s_reachable) l1 c1 k1).binds fun _ _ _ _ _ _ us hl => match us, hl with | [_, _], _ => rfl⟩, ⟨f2, _, fun_mk (st := s_reversed_graph) l2 c2 k2, PySem.W.mg_of X G a2, (fun_mk (st := s_reversed_graph) l2 c2 k2).binds fun _ _ _ _ _ _ us hl => match us, hl with | [_], _ => rfl⟩, ⟨f3, _, fun_mk (st := s_finishing_order) l3 c3 k3, PySem.W.mg_of X G a3, (fun_mk (st := s_finishing_order) l3 c3 k3).binds fun _ _ _ _ _ _ us hl => match us, hl with | [_], _ => rfl⟩, ⟨f4, _, fun_mk (st := s_components) l4 c4 k4, PySem.W.mg_of X G a4, (fun_mk (st := s_components) l4 c4 k4).binds fun _ _ _ _ _ _ us hl => match us, hl with | [_], _ => rfl⟩, ⟨f5, _, fun_mk (st := s_on_cycles) l5 c5 k5, PySem.W.mg_of X G a5, (fun_mk (st := s_on_cycles) l5 c5 k5).binds fun _ _ _ _ _ _ us hl => match us, hl with | [_], _ => rfl⟩, ⟨f6, _, fun_mk (st := s_check_states) l6 c6 k6, PySem.W.mg_of X G a6, (fun_mk (st := s_check_states) l6 c6 k6).binds fun _ _ _ _ _ _ us hl => match us, hl with | [_, _], _ => rfl⟩, ⟨f7, _, fun_mk (st := s_empty_automaton) l7 c7 k7, PySem.W.mg_of X G a7, (fun_mk (st := s_empty_automaton) l7 c7 k7).binds fun _ _ _ _ _ _ us hl => match us, hl with | [_], _ => rfl⟩, ⟨f8, _, Clo.func_mk (st := s_built_automaton) l8 c8 k8, PySem.W.mg_of X G a8, (fun_mk (st := s_built_automaton) l8 c8 k8).binds fun _ _ _ _ _ _ us hl => match us, hl with | [_, _, _, _], _ => rfl⟩, ⟨f9, _, fun_mk (st := s_state_graph) l9 c9 k9, PySem.W.mg_of X G a9, (fun_mk (st := s_state_graph) l9 c9 k9).binds fun _ _ _ _ _ _ us hl => match us, hl with | [_], _ => rfl⟩, ⟨f10, _, fun_mk (st := s_trim) l10 c10 k10, PySem.W.mg_of X G a10, (fun_mk (st := s_trim) l10 c10 k10).binds fun _ _ _ _ _ _ us hl => match us, hl with | [_], _ => rfl⟩, ⟨f11, _, fun_mk (st := s_renumbered) l11 c11 k11, PySem.W.mg_of X G a11, (fun_mk (st := s_renumbered) l11 c11 k11).binds fun _ _ _ _ _ _ us hl => match us, hl with | [_, _], _ => rfl⟩, ⟨f12, _, fun_mk (st := s_useful_states) l12 c12 k12, PySem.W.mg_of X G a12, (fun_mk (st := s_useful_states) l12 c12 k12).binds fun _ _ _ _ _ _ us hl => match us, hl with | [_], _ => rfl⟩, ⟨f13, _, fun_mk (st := s_check_state) l13 c13 k13, PySem.W.mg_of X G a13, (fun_mk (st := s_check_state) l13 c13 k13).binds fun _ _ _ _ _ _ us hl => match us, hl with | [_, _], _ => rfl⟩, ⟨f14, _, Clo.func_mk (st := s_to_buchi) l14 c14 k14, PySem.W.mg_of X G a14, (fun_mk (st := s_to_buchi) l14 c14 k14).binds fun _ _ _ _ _ _ us hl => match us, hl with | [_], _ => rfl⟩, ⟨f15, _, fun_mk (st := s_law_draws) l15 c15 k15, PySem.W.mg_of X G a15, (fun_mk (st := s_law_draws) l15 c15 k15).binds fun _ _ _ _ _ _ us hl => match us, hl with | [_, _], _ => rfl⟩, ⟨f16, _, fun_mk (st := s_law_take) l16 c16 k16, PySem.W.mg_of X G a16, (fun_mk (st := s_law_take) l16 c16 k16).binds fun _ _ _ _ _ _ us hl => match us, hl with | [_, _], _ => rfl⟩, ⟨f17, _, fun_mk (st := s_law_is_integer) l17 c17 k17, PySem.W.mg_of X G a17, (fun_mk (st := s_law_is_integer) l17 c17 k17).binds fun _ _ _ _ _ _ us hl => match us, hl with | [_], _ => rfl⟩, ⟨f18, _, fun_mk (st := s_law_integers) l18 c18 k18, PySem.W.mg_of X G a18, (fun_mk (st := s_law_integers) l18 c18 k18).binds fun _ _ _ _ _ _ us hl => match us, hl with | [_, _, _], _ => rfl⟩, ⟨f19, _, fun_mk (st := s_law_lasso) l19 c19 k19, PySem.W.mg_of X G a19, (fun_mk (st := s_law_lasso) l19 c19 k19).binds fun _ _ _ _ _ _ us hl => match us, hl with | [_, _, _], _ => rfl⟩, ⟨f20, _, fun_mk (st := s_law_lives) l20 c20 k20, PySem.W.mg_of X G a20, (fun_mk (st := s_law_lives) l20 c20 k20).binds fun _ _ _ _ _ _ us hl => match us, hl with | [_, _, _], _ => rfl⟩, ⟨f21, _, fun_mk (st := s_law_flat) l21 c21 k21, PySem.W.mg_of X G a21, (fun_mk (st := s_law_flat) l21 c21 k21).binds fun _ _ _ _ _ _ us hl => match us, hl with | [_], _ => rfl⟩, ⟨f22, _, fun_mk (st := s_law_accepts) l22 c22 k22, PySem.W.mg_of X G a22, (fun_mk (st := s_law_accepts) l22 c22 k22).binds fun _ _ _ _ _ _ us hl => match us, hl with | [_, _, _, _], _ => rfl⟩, ⟨f23, _, fun_mk (st := s_law_states) l23 c23 k23, PySem.W.mg_of X G a23, (fun_mk (st := s_law_states) l23 c23 k23).binds fun _ _ _ _ _ _ us hl => match us, hl with | [_, _], _ => rfl⟩, ⟨f24, _, fun_mk (st := s_law_is_automaton) l24 c24 k24, PySem.W.mg_of X G a24, (fun_mk (st := s_law_is_automaton) l24 c24 k24).binds fun _ _ _ _ _ _ us hl => match us, hl with | [_, _], _ => rfl⟩, ⟨f25, _, fun_mk (st := s_law_parity) l25 c25 k25, PySem.W.mg_of X G a25, (fun_mk (st := s_law_parity) l25 c25 k25).binds fun _ _ _ _ _ _ us hl => match us, hl with | [_, _, _], _ => rfl⟩, ⟨f26, _, fun_mk (st := s_law_best) l26 c26 k26, PySem.W.mg_of X G a26, (fun_mk (st := s_law_best) l26 c26 k26).binds fun _ _ _ _ _ _ us hl => match us, hl with | [_, _, _, _], _ => rfl⟩, PySem.W.mg_none_of X G z0, PySem.W.mg_none_of X G z1, PySem.W.mg_none_of X G z2, PySem.W.mg_none_of X G z3, PySem.W.mg_none_of X G z4, PySem.W.mg_none_of X G z5, PySem.W.mg_none_of X G z6, PySem.W.mg_none_of X G z7, PySem.W.mg_none_of X G z8, PySem.W.mg_none_of X G z9, PySem.W.mg_none_of X G z10, PySem.W.mg_none_of X G z11, ⟨cI, C, fI, D, fP, _, _, ⟨PySem.W.mg_of X G xa, xb, xc, xd, xe, ⟨xf, xg, xh, xi, xj, xk, xl, xm⟩⟩, ⟨⟨yb, yc, yd, ye⟩, yf, yg, yh, yi, yq, yr, ys, yt, xu⟩, ⟨yj, yk, yl, ym⟩, PySem.W.mg_of X G ya, fun_mk (st := s_Automaton_init) yn yo yp, (fun_mk (st := s_Automaton_init) yn yo yp).binds fun _ _ _ _ _ _ us hl => match us, hl with | [_, _, _, _, _], _ => rfl, ⟨⟨ppb, ppc, ppd, ppe⟩, ppf, ppg, pph, ppi⟩, ⟨ppj, ppk, ppl, ppm⟩, PySem.W.mg_of X G ppa, fun_mk (st := s_ParityAutomaton_init) ppn ppo ppp, (fun_mk (st := s_ParityAutomaton_init) ppn ppo ppp).binds fun _ _ _ _ _ _ us hl => match us, hl with | [_, _, _, _, _], _ => rfl⟩, pn⟩
  have cd_ : ∀ p ∈ [(cA0, PA0), (cA1, PA1)], PySem.W.CodeHd h p.1 p.2 := fun p hp => PySem.W.codeHd_of_K X (by rcases List.mem_cons.mp hp with rfl | hp; exact th0; obtain rfl := List.mem_singleton.mp hp; exact th1)
  exact ⟨_, [(cA0, PA0), (cA1, PA1)], spLaw K PA0 PA1, (by intro p hp; rcases List.mem_cons.mp hp with rfl | hp; exact te0; obtain rfl := List.mem_singleton.mp hp; exact te1), (by intro p hp; rcases List.mem_cons.mp hp with rfl | hp; exact tn0; obtain rfl := List.mem_singleton.mp hp; exact tn1), cd_, fun s v => .of_eq rfl, fun H a ns hl _ ht hS => ⟨a, ns, rfl, hS, hl, ht (cA0, PA0) (by simp), ht (cA1, PA1) (by simp), fun _ => rfl⟩, fun base _ _ ht => ok_law (fun_mk (st := s_law) l27 c27 k27) T (ht (cA0, PA0) (by simp)) (ht (cA1, PA1) (by simp))⟩
end My
open PySem PySem.W PyProof.Rows
set_option maxHeartbeats 0 in
theorem PySem.Challenge.cw_reactivesynth_k25_to_buchi_holds : PySem.Challenge.rw_reactivesynth_k25_to_buchi.Holds := by
  w_on; o_law; k_head; (case hw => w_witness2)
  k_fill
  refine LamX.walk_ofTs (l := PySem.Challenge.rw_reactivesynth_k25_to_buchi) (n := 63) (k := 8) (x := "script") (CX := fun _ => L2.CX0) rfl (by decide) rfl ⟨rfl, by decide, by decide⟩ (fun w h Y => PySem.W.km_in_of Y) ?F (fun _ _ _ _ _ h => h)
  case F =>
    intro w mg fa h Y KX G hmg
    refine' My.all_mk KX G hmg ?a0 ?l0 ?c0 ?k0 ?a1 ?l1 ?c1 ?k1 ?a2 ?l2 ?c2 ?k2 ?a3 ?l3 ?c3 ?k3 ?a4 ?l4 ?c4 ?k4 ?a5 ?l5 ?c5 ?k5 ?a6 ?l6 ?c6 ?k6 ?a7 ?l7 ?c7 ?k7 ?a8 ?l8 ?c8 ?k8 ?a9 ?l9 ?c9 ?k9 ?a10 ?l10 ?c10 ?k10 ?a11 ?l11 ?c11 ?k11 ?a12 ?l12 ?c12 ?k12 ?a13 ?l13 ?c13 ?k13 ?a14 ?l14 ?c14 ?k14 ?a15 ?l15 ?c15 ?k15 ?a16 ?l16 ?c16 ?k16 ?a17 ?l17 ?c17 ?k17 ?a18 ?l18 ?c18 ?k18 ?a19 ?l19 ?c19 ?k19 ?a20 ?l20 ?c20 ?k20 ?a21 ?l21 ?c21 ?k21 ?a22 ?l22 ?c22 ?k22 ?a23 ?l23 ?c23 ?k23 ?a24 ?l24 ?c24 ?k24 ?a25 ?l25 ?c25 ?k25 ?a26 ?l26 ?c26 ?k26 ?a27 ?l27 ?c27 ?k27 ?z0 ?z1 ?z2 ?z3 ?z4 ?z5 ?z6 ?z7 ?z8 ?z9 ?z10 ?z11 ?xa ?xb ?xc ?xd ?xe ?xf ?xg ?xh ?xi ?xj ?xk ?xl ?xm ?ya ?yb ?yc ?yd ?ye ?yf ?yg ?yh ?yi ?yj ?yk ?yl ?ym ?yn ?yo ?yp ?yq ?yr ?ys ?yt ?xu ?ppa ?ppb ?ppc ?ppd ?ppe ?ppf ?ppg ?pph ?ppi ?ppj ?ppk ?ppl ?ppm ?ppn ?ppo ?ppp ?tc0 ?th0 ?tn0 ?te0 ?tc1 ?th1 ?tn1 ?te1 ?pn
    (case a0 => k_is); (case l0 => k_is); (case c0 => k_is); (case k0 => k_is); (case a1 => k_is); (case l1 => k_is); (case c1 => k_is); (case k1 => k_is); (case a2 => k_is); (case l2 => k_is); (case c2 => k_is); (case k2 => k_is); (case a3 => k_is); (case l3 => k_is); (case c3 => k_is); (case k3 => k_is); (case a4 => k_is); (case l4 => k_is); (case c4 => k_is); (case k4 => k_is); (case a5 => k_is); (case l5 => k_is); (case c5 => k_is); (case k5 => k_is); (case a6 => k_is); (case l6 => k_is); (case c6 => k_is); (case k6 => k_is); (case a7 => k_is); (case l7 => k_is); (case c7 => k_is); (case k7 => k_is); (case a8 => k_is); (case l8 => k_is); (case c8 => k_is); (case k8 => k_is); (case a9 => k_is); (case l9 => k_is); (case c9 => k_is); (case k9 => k_is); (case a10 => k_is); (case l10 => k_is); (case c10 => k_is); (case k10 => k_is); (case a11 => k_is); (case l11 => k_is); (case c11 => k_is); (case k11 => k_is); (case a12 => k_is); (case l12 => k_is); (case c12 => k_is); (case k12 => k_is); (case a13 => k_is); (case l13 => k_is); (case c13 => k_is); (case k13 => k_is); (case a14 => k_is); (case l14 => k_is); (case c14 => k_is); (case k14 => k_is); (case a15 => k_is); (case l15 => k_is); (case c15 => k_is); (case k15 => k_is); (case a16 => k_is); (case l16 => k_is); (case c16 => k_is); (case k16 => k_is); (case a17 => k_is); (case l17 => k_is); (case c17 => k_is); (case k17 => k_is); (case a18 => k_is); (case l18 => k_is); (case c18 => k_is); (case k18 => k_is); (case a19 => k_is); (case l19 => k_is); (case c19 => k_is); (case k19 => k_is); (case a20 => k_is); (case l20 => k_is); (case c20 => k_is); (case k20 => k_is); (case a21 => k_is); (case l21 => k_is); (case c21 => k_is); (case k21 => k_is); (case a22 => k_is); (case l22 => k_is); (case c22 => k_is); (case k22 => k_is); (case a23 => k_is); (case l23 => k_is); (case c23 => k_is); (case k23 => k_is); (case a24 => k_is); (case l24 => k_is); (case c24 => k_is); (case k24 => k_is); (case a25 => k_is); (case l25 => k_is); (case c25 => k_is); (case k25 => k_is); (case a26 => k_is); (case l26 => k_is); (case c26 => k_is); (case k26 => k_is); (case a27 => k_is); (case l27 => k_is); (case c27 => k_is); (case k27 => k_is); (case z0 => k_is); (case z1 => k_is); (case z2 => k_is); (case z3 => k_is); (case z4 => k_is); (case z5 => k_is); (case z6 => k_is); (case z7 => k_is); (case z8 => k_is); (case z9 => k_is); (case z10 => k_is); (case z11 => k_is); (case xa => first | rfl | k_is); (case xb => first | k_exc | rfl | k_is); (case xc => first | rfl | k_is); (case xd => first | rfl | k_is); (case xe => first | rfl | k_is); (case xf => first | rfl | k_is); (case xg => first | rfl | k_is); (case xh => first | rfl | k_is); (case xi => first | rfl | k_is); (case xj => first | rfl | k_is); (case xk => first | rfl | k_is); (case xl => first | rfl | k_is); (case xm => first | rfl | k_is); (case ya => k_is); (case yb => k_is); (case yc => k_is); (case yd => k_is); (case ye => k_is); (case yf => k_is); (case yg => k_is); (case yh => k_is); (case yi => k_is); (case yj => k_is); (case yk => k_is); (case yl => k_is); (case ym => k_is); (case yn => k_is); (case yo => k_is); (case yp => k_is); (case yq => k_is); (case yr => k_is); (case ys => k_is); (case yt => k_is); (case xu => first | rfl | k_is); (case ppa => k_is); (case ppb => k_is); (case ppc => k_is); (case ppd => k_is); (case ppe => k_is); (case ppf => k_is); (case ppg => k_is); (case pph => k_is); (case ppi => k_is); (case ppj => k_is); (case ppk => k_is); (case ppl => k_is); (case ppm => k_is); (case ppn => k_is); (case ppo => k_is); (case ppp => k_is); (case tc0 => first | rfl | k_is); (case th0 => first | rfl | k_is); (case tn0 => first | rfl | k_is); (case te0 => exact PySem.W.km_tabs_of Y _ (by decide)); (case tc1 => first | rfl | k_is); (case th1 => first | rfl | k_is); (case tn1 => first | rfl | k_is); (case te1 => exact PySem.W.km_tabs_of Y _ (by decide)); (case pn => decide)
