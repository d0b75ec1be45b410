import PyProof.Rows.All
import Wide.All
import OpenK.AllK
import Wide.FinOn
import HandS.ForMost
import HandS.ForExc
import HandS.ExcIs
import HandS.ExcOwn
import HandS.WordsExc
import HandS.TryMany
import HandS.TryOnly
import HandS.Codes
import HandS.IsInst
import HandS.TupAny
import HandS.TupMul
import HandS.SortKw
import KE.KMinKey
import PyProof.WalksMore
import HandS.Dict
import HandS.Style
import HandS.Conv
import HandS.Walk
import HandS.Zip
import PyProof.AutoSeq1
import HandS.Text
import HandS.SetFor
import HandS.Strs
import HandS.Star
import HandS.MakeKwOnly
import HandS.Property
import HandS.Steps
import HandS.Defaults
import HandS.WideBits
import HandS.StrMore
import HandS.Replace
import HandS.Deep
import HandS.DictComp
import KE.GoesMore
import HandS.Iter
import HandS.Nested
import HandS.NestedK
import HandS.EndTab
import HandS.AnyAll
import PySem.Challenge.RW_reactivesynth_k71_matches
set_option Elab.async false
set_option linter.all false
set_option maxRecDepth 100000
set_option maxHeartbeats 4000000
namespace Wd
/-- m is the length of a proper border of the first k letters -/
def Bd (w : Nat → Int) (k m : Nat) : Prop := m < k ∧ ∀ i, i < m → w i = w (k - m + i)
/-- .. the greatest -/
def Lg (w : Nat → Int) (k m : Nat) : Prop := Bd w k m ∧ ∀ j, Bd w k j → j ≤ m
theorem Bd.zero {w : Nat → Int} {k : Nat} (h : 0 < k) : Bd w k 0 := ⟨h, fun i hi => absurd hi (Nat.not_lt_zero i)⟩
theorem Bd.down {w : Nat → Int} {k m : Nat} (h : Bd w (k + 1) (m + 1)) : Bd w k m ∧ w m = w k := by
  obtain ⟨h1, h2⟩ := h
  refine ⟨⟨by omega, fun i hi => ?_⟩, ?_⟩
  · have := h2 i (by omega)
    rw [this]
    congr 1
    omega
  · have := h2 m (by omega)
    rw [this]
    congr 1
    omega
theorem Bd.up {w : Nat → Int} {k m : Nat} (h : Bd w k m) (e : w m = w k) : Bd w (k + 1) (m + 1) := by
  obtain ⟨h1, h2⟩ := h
  refine ⟨by omega, fun i hi => ?_⟩
  rcases Nat.lt_or_ge i m with c | c
  · rw [h2 i c]
    congr 1
    omega
  · have : i = m := by omega
    subst this
    rw [e]
    congr 1
    omega
theorem Bd.inner {w : Nat → Int} {k b j : Nat} (h : Bd w k b) (g : Bd w k j) (l : j < b) : Bd w b j := by
  obtain ⟨h1, h2⟩ := h
  obtain ⟨g1, g2⟩ := g
  refine ⟨l, fun i hi => ?_⟩
  rw [g2 i hi, h2 (b - j + i) (by omega)]
  congr 1
  omega
theorem Bd.trans {w : Nat → Int} {k b j : Nat} (h : Bd w k b) (g : Bd w b j) : Bd w k j := by
  obtain ⟨h1, h2⟩ := h
  obtain ⟨g1, g2⟩ := g
  refine ⟨by omega, fun i hi => ?_⟩
  rw [g2 i hi, h2 (b - j + i) (by omega)]
  congr 1
  omega
/-- what the inner loop keeps: b is a border of the first k letters, and no border of the first k + 1 is longer than b + 1 -/
def In (w : Nat → Int) (k b : Nat) : Prop := Bd w k b ∧ ∀ j, Bd w (k + 1) (j + 1) → j ≤ b
theorem In.start {w : Nat → Int} {k b : Nat} (h : Lg w k b) : In w k b := ⟨h.1, fun j hj => h.2 j hj.down.1⟩
theorem In.step {w : Nat → Int} {k b c : Nat} (h : In w k b) (hb : 0 < b) (ne : w k ≠ w b) (g : Lg w b c) : In w k c ∧ c < b := by
  refine ⟨⟨h.1.trans g.1, fun j hj => ?_⟩, g.1.1⟩
  have h1 := h.2 j hj
  obtain ⟨h2, h3⟩ := hj.down
  have : j ≠ b := fun z => ne (by rw [← h3, z])
  exact g.2 j (h.1.inner h2 (by omega))
theorem In.found {w : Nat → Int} {k b : Nat} (h : In w k b) (e : w k = w b) : Lg w (k + 1) (b + 1) := by
  refine ⟨h.1.up e.symm, fun j hj => ?_⟩
  cases j with
  | zero => omega
  | succ j => exact Nat.succ_le_succ (h.2 j hj)
theorem In.none {w : Nat → Int} {k : Nat} (h : In w k 0) (ne : w k ≠ w 0) : Lg w (k + 1) 0 := by
  refine ⟨Bd.zero (by omega), fun j hj => ?_⟩
  cases j with
  | zero => omega
  | succ j =>
    have h1 := h.2 j hj
    have : j = 0 := by omega
    subst this
    exact absurd hj.down.2.symm ne
/-! periods -/
/-- the letters of the word without end that repeats the first n letters -/
def cyc (w : Nat → Int) (n i : Nat) : Int := w (i % n)
def Rp (w : Nat → Int) (n p : Nat) : Prop := ∀ i, cyc w n (i + p) = cyc w n i
theorem Rp.mul {w : Nat → Int} {n p : Nat} (h : Rp w n p) : ∀ k i, cyc w n (i + k * p) = cyc w n i
  | 0, i => by rw [Nat.zero_mul, Nat.add_zero]
  | k + 1, i => by
    rw [Nat.succ_mul, ← Nat.add_assoc, h, h.mul k i]
theorem Rp.mod {w : Nat → Int} {n p i : Nat} (h : Rp w n p) : cyc w n i = cyc w n (i % p) := by
  have := h.mul (i / p) (i % p)
  rw [Nat.mul_comm, Nat.mod_add_div] at this
  exact this
theorem cyc_lt {w : Nat → Int} {n i : Nat} (h : i < n) : cyc w n i = w i := by
  unfold cyc
  rw [Nat.mod_eq_of_lt h]
theorem rp_self (w : Nat → Int) (n : Nat) : Rp w n n := fun i => by
  unfold cyc
  rw [Nat.add_mod_right]
/-- a period of the finite word that divides its length is one of the word without end -/
theorem rp_of {w : Nat → Int} {n p : Nat} (hp : 0 < p) (hd : p ∣ n) (hn : 0 < n) (h : ∀ i, i + p < n → w i = w (i + p)) : Rp w n p := by
  have red : ∀ k i, i + k * p < n → w (i + k * p) = w i := by
    intro k
    induction k with
    | zero => intro i _; rw [Nat.zero_mul, Nat.add_zero]
    | succ k ih =>
      intro i hi
      rw [Nat.succ_mul] at hi ⊢
      rw [← Nat.add_assoc, ← h (i + k * p) (by omega)]
      exact ih i (by omega)
  have toMod : ∀ i, cyc w n i = w (i % p) := by
    intro i
    unfold cyc
    have h1 : i % n < n := Nat.mod_lt _ hn
    have e : i % n % p + (i % n / p) * p = i % n := by
      rw [Nat.mul_comm]
      exact Nat.mod_add_div _ _
    have h2 := red (i % n / p) (i % n % p) (by rw [e]; exact h1)
    rw [e] at h2
    rw [h2, Nat.mod_mod_of_dvd _ hd]
  intro i
  rw [toMod, toMod, Nat.add_mod_right]
/-- the least repetition: r divides n, the word repeats its first r letters, and no shorter one does -/
structure Least (w : Nat → Int) (n r : Nat) : Prop where
  pos : 0 < r
  dvd : r ∣ n
  rp : Rp w n r
  min : ∀ p, 0 < p → p ∣ n → Rp w n p → r ≤ p
theorem least_of {w : Nat → Int} {n b : Nat} (hn : 0 < n) (h : Lg w n b) : Least w n (if n % (n - b) = 0 then n - b else n) := by
  obtain ⟨⟨hb, h1⟩, h2⟩ := h
  have hs : 0 < n - b := by omega
  -- n - b is the least period of the finite word
  have per : ∀ i, i + (n - b) < n → w i = w (i + (n - b)) := fun i hi => by
    have := h1 i (by omega)
    rw [this]
    congr 1
    omega
  have low : ∀ p, 0 < p → p ≤ n → (∀ i, i + p < n → w i = w (i + p)) → n - b ≤ p := fun p hp hpn hq => by
    have := h2 (n - p) ⟨by omega, fun i hi => by
      have := hq i (by omega)
      rw [this]
      congr 1
      omega⟩
    omega
  have fin : ∀ p, Rp w n p → ∀ i, i + p < n → w i = w (i + p) := fun p hp i hi => by
    have := hp i
    rw [cyc_lt hi, cyc_lt (by omega)] at this
    exact this.symm
  -- a shorter repetition makes n - b a repetition
  have key : ∀ p, 0 < p → p ∣ n → p < n → Rp w n p → n % (n - b) = 0 ∧ n - b ≤ p := by
    intro p hp hd hlt hr
    have le := low p hp (by omega) (fin p hr)
    obtain ⟨q, hq⟩ := hd
    have hq2 : 2 ≤ q := by
      rcases Nat.lt_or_ge q 2 with c | c
      · have : q = 0 ∨ q = 1 := by omega
        rcases this with z | z
        · rw [z] at hq; omega
        · rw [z] at hq; omega
      · exact c
    have h2p : 2 * p ≤ n := by
      rw [hq, Nat.mul_comm 2 p]
      exact Nat.mul_le_mul_left p hq2
    have rs : Rp w n (n - b) := by
      intro i
      have e1 : cyc w n (i + (n - b)) = cyc w n (i % p + (n - b)) := by
        have := hr.mul (i / p) (i % p + (n - b))
        rw [← this]
        congr 1
        have := Nat.mod_add_div i p
        rw [Nat.mul_comm (i / p) p]
        omega
      have hm : i % p < p := Nat.mod_lt _ hp
      rw [e1, hr.mod (i := i), cyc_lt (show i % p + (n - b) < n by omega), cyc_lt (show i % p < n by omega)]
      exact (per _ (by omega)).symm
    -- p is a multiple of n - b
    have hmod : p % (n - b) = 0 := by
      rcases Nat.eq_zero_or_pos (p % (n - b)) with z | z
      · exact z
      · have lt : p % (n - b) < n - b := Nat.mod_lt _ hs
        have rm : Rp w n (p % (n - b)) := by
          intro i
          have a := rs.mul (p / (n - b)) (i + p % (n - b))
          have e : i + p % (n - b) + p / (n - b) * (n - b) = i + p := by
            rw [Nat.mul_comm, Nat.add_assoc, Nat.mod_add_div]
          rw [e] at a
          rw [← a]
          exact hr i
        have := low _ z (by omega) (fin _ rm)
        omega
    refine ⟨?_, le⟩
    exact Nat.mod_eq_zero_of_dvd (Nat.dvd_trans (Nat.dvd_of_mod_eq_zero hmod) ⟨q, hq⟩)
  by_cases c : n % (n - b) = 0
  · rw [if_pos c]
    refine ⟨hs, Nat.dvd_of_mod_eq_zero c, rp_of hs (Nat.dvd_of_mod_eq_zero c) hn per, fun p hp hd hr => ?_⟩
    exact low p hp (Nat.le_of_dvd hn hd) (fin p hr)
  · rw [if_neg c]
    refine ⟨hn, Nat.dvd_refl n, rp_self w n, fun p hp hd hr => ?_⟩
    have le := Nat.le_of_dvd hn hd
    rcases Nat.lt_or_ge p n with l | l
    · exact absurd (key p hp hd l hr).1 c
    · exact l
end Wd
/-! ### min(xs, default=d) of a list of ints: own rule -/
namespace MinD
open PySem PySem.W PyProof.Rows
def kwD (d : Value) : List (Str × Value) := [(Str.ofString "default", d)]
theorem nameL : (toString "min" ++ toString ".loop" : String) = "min.loop" := by decide
section
variable {prog : Program} {w : World} {A : Around} {R : Result → Shared → Prop} {I S : Addr} {fp wr : List Addr} {n : Nat} {P : Nat → Value → Prop} {St : Nat → Heap → Prop} {d : Value}
theorem loopD (W : Walks prog w A.in1 I fp wr n P St) (bt : Nat → Nat → Bool) (cm : CmpOf prog w A.in1 .Lt P bt) (nf : S ∉ fp) :
    ∀ (m j : Nat) (u : Shared) (best : Value) (c : Nat), n - (j + 1) = m → j + 1 ≤ n → St (j + 1) u.heap → P (argBest bt j) best →
    u.heap.get? S = some { cls := .type "list", dict := none, data := .seq #[best, best] c, slots := #[] } →
    (∀ v g tk, P (argBest bt (n - 1)) v → (∀ b o, b ∉ wr → b ≠ S → u.heap.get? b = some o → g.get? b = some o) → R (.ok (.ret v)) { u with heap := g, toks := tk }) →
    codeAny (model prog w) A (.builtin "min.loop" ⟨[.ref I, .none, .ref S], kwD d⟩) R u := by
  have nw : S ∉ wr := fun q => nf (W.sub _ q)
  intro m
  induction m with
  | zero =>
    intro j u best c em hj st pb gS out
    have ej : j + 1 = n := by omega
    refine codeAny_builtin PySem.F.entry_min_loop ?_
    rw [Around.under_plainId PySem.F.plain_min_loop _]
    show wpAny _ A.in1 (seqItems? (.ref S) >>= _) _ _ u
    refine wpAny_bind (wpAny_seqItems gS rfl ?_)
    show wpAny _ A.in1 (tryCatch (pyNext (.ref I)) _ >>= _) _ _ u
    refine wpAny_bind (wpAny_tryCatch (W.done u _ _ (ej ▸ st) fun g tk keep => ?_))
    have gS2 := keep S _ nw gS
    show wpAny _ A.in1 (updateSeq S (fun _ => #[]) >>= _) _ _ _
    refine wpAny_bind (wpAny_updateSeq gS2 rfl (wpAny_bind (wpAny_letGo (wpAny_pure ?_))))
    exact out best _ tk (by rw [← ej]; exact pb) fun b o hb hS e => (Heap.get?_update_other _ _ (Ne.symm hS)).trans (keep b o hb e)
  | succ m ih =>
    intro j u best c em hj st pb gS out
    have lt : j + 1 < n := by omega
    refine codeAny_builtin PySem.F.entry_min_loop ?_
    rw [Around.under_plainId PySem.F.plain_min_loop _]
    show wpAny _ A.in1 (seqItems? (.ref S) >>= _) _ _ u
    refine wpAny_bind (wpAny_seqItems gS rfl ?_)
    show wpAny _ A.in1 (tryCatch (pyNext (.ref I)) _ >>= _) _ _ u
    refine wpAny_bind (wpAny_tryCatch (W.item (j + 1) u _ _ lt st fun v g tk pv st2 keep => ?_))
    have gS2 := keep S _ nw gS
    show wpAny _ A.in1 (tryCatch (holding [v, v] (richCompare .Lt v best >>= _)) _ >>= _) _ _ _
    refine wpAny_bind (wpAny_tryCatch (wpAny_holding (wpAny_bind (cm (j + 1) (argBest bt j) v best _ _ _ pv pb ?_))))
    refine wpAny_bind (wpAny_holding (wpAny_truthy_bool (wpAny_bind (wpAny_letGo (wpAny_pure ?_)))))
    cases hb : bt (j + 1) (argBest bt j) with
    | true =>
      simp only [if_true]
      refine wpAny_bind (wpAny_updateSeq gS2 rfl (wpAny_bind (wpAny_letGo ?_)))
      rw [nameL]
      refine wpAny_pure ⟨plainId_quiet PySem.F.plain_min_loop _, ih (j + 1) _ v _ (by omega) lt (W.frame _ _ _ st2 fun b bf o e => ?_) (by simp only [argBest, hb, if_true]; exact pv) (Heap.get?_update_self _ gS2 rfl)
        fun v2 g2 tk2 p2 keep2 => ?_⟩
      · exact (Heap.get?_update_other _ _ (fun q : S = b => nf (by rw [q]; exact bf))).trans e
      · exact out v2 g2 tk2 p2 fun b o hw hS e => keep2 b o hw hS ((Heap.get?_update_other _ _ (Ne.symm hS)).trans (keep b o hw e))
    | false =>
      simp only [Bool.false_eq_true, if_false]
      refine wpAny_bind (wpAny_letGo ?_)
      rw [nameL]
      exact wpAny_pure ⟨plainId_quiet PySem.F.plain_min_loop _, ih (j + 1) _ best c (by omega) lt st2 (by simp only [argBest, hb, Bool.false_eq_true, if_false]; exact pb) gS2 fun v2 g2 tk2 p2 keep2 =>
        out v2 g2 tk2 p2 fun b o hw hS e => keep2 b o hw hS (keep b o hw e)⟩
theorem firstD (W : Walks prog w A.in1 I fp wr n P St) (bt : Nat → Nat → Bool) (cm : CmpOf prog w A.in1 .Lt P bt) (nf : S ∉ fp) {u : Shared} {c : Nat} (st : St 0 u.heap)
    (gS : u.heap.get? S = some { cls := .type "list", dict := none, data := .seq #[] c, slots := #[] })
    (out : ∀ v g tk, (0 < n → P (argBest bt (n - 1)) v) → (n = 0 → v = d) → (∀ b o, b ∉ wr → b ≠ S → u.heap.get? b = some o → g.get? b = some o) → R (.ok (.ret v)) { u with heap := g, toks := tk }) :
    codeAny (model prog w) A (.builtin "min.loop" ⟨[.ref I, .none, .ref S], kwD d⟩) R u := by
  have nw : S ∉ wr := fun q => nf (W.sub _ q)
  refine codeAny_builtin PySem.F.entry_min_loop ?_
  rw [Around.under_plainId PySem.F.plain_min_loop _]
  show wpAny _ A.in1 (seqItems? (.ref S) >>= _) _ _ u
  refine wpAny_bind (wpAny_seqItems gS rfl ?_)
  show wpAny _ A.in1 (tryCatch (pyNext (.ref I)) _ >>= _) _ _ u
  by_cases h0 : 0 < n
  · refine wpAny_bind (wpAny_tryCatch (W.item 0 u _ _ h0 st fun v g tk pv st2 keep => ?_))
    have gS2 := keep S _ nw gS
    show wpAny _ A.in1 (updateSeq S (fun _ => #[v, v]) >>= _) _ _ _
    refine wpAny_bind (wpAny_updateSeq gS2 rfl ?_)
    rw [nameL]
    refine wpAny_pure ⟨plainId_quiet PySem.F.plain_min_loop _, loopD W bt cm nf _ 0 _ v _ rfl h0 (W.frame _ _ _ st2 fun b bf o e => ?_) pv (Heap.get?_update_self _ gS2 rfl) fun v2 g2 tk2 p2 keep2 => ?_⟩
    · exact (Heap.get?_update_other _ _ (fun q : S = b => nf (by rw [q]; exact bf))).trans e
    · exact out v2 g2 tk2 (fun _ => p2) (fun z => by omega) fun b o hw hS e => keep2 b o hw hS ((Heap.get?_update_other _ _ (Ne.symm hS)).trans (keep b o hw e))
  · have e0 : n = 0 := by omega
    refine wpAny_bind (wpAny_tryCatch (W.done u _ _ (by rw [e0]; exact st) fun g tk keep => ?_))
    show wpAny _ A.in1 (rule _ >>= _) _ _ _
    refine wpAny_bind (wpAny_rule (wpAny_pure ?_))
    exact out d g tk (fun z => absurd z h0) (fun _ => rfl) fun b o hw _ e => keep b o hw e
end
section
variable {prog : Program} {w : World} {A : Around} {E : Value → Shared → Prop} {s : Shared} {d : Value}
theorem args_d (a v : Value) : argsOk "min" ⟨[a], kwD v⟩ := by
  unfold argsOk
  kernel_rfl
theorem callD {l : Addr} {xs : Array (Int × Tok)} {Q : Value → Shared → Prop} (hh : A.handled = none) (hl : s.heap.IsList l (intItems xs))
    (h : ∀ v g tk, (0 < xs.size → (intItems xs)[argBest (fun i j => decide (numAt xs i < numAt xs j)) (xs.size - 1)]? = some v) → (xs.size = 0 → v = d) → (∀ b o, s.heap.get? b = some o → g.get? b = some o) → Q v { s with heap := g, toks := tk }) :
    wpAny (model prog w) A (call (.builtin "min") [.ref l] (kwD d)) Q E s := by
  refine kmk_tree PySem.F.kind_min PySem.F.plain_min PySem.F.entry_min (args_d _ _) ?_
  show wpAny _ A.in1 (Builtin.Builtins.bindParams "min" ["key", "default"] 0 ⟨[], kwD d⟩ >>= _) _ _ s
  refine wpAny_bind (wpAny_of_eq (show Builtin.Builtins.bindParams "min" ["key", "default"] 0 ⟨[], kwD d⟩ = pure [none, some d] from rfl) ?_)
  refine wpAny_bind (wpAny_pure ?_)
  refine wpAny_bind (iter_intList hl fun u eu st hfp hlI => ?_)
  subst eu
  refine wpAny_bind (wpAny_newObj_type ?_)
  rw [nameL]
  refine wpAny_pure ⟨plainId_quiet PySem.F.plain_min_loop _, firstD (Walks.list (A := A.in1) hh _ l hlI (intItems xs)) _ (CmpOf.ints_lt (numAt xs) (fun _ _ => intItems_at)) (fun hm => Nat.lt_irrefl _ (hfp _ hm)) ?_ (Heap.get?_push_size _ rfl) fun v g tk p1 p2 keep => ?_⟩
  · exact (Walks.list (prog := prog) (w := w) (A := A.in1) hh _ l hlI (intItems xs)).frame _ _ _ st fun b _ o e => Heap.get?_push_of_some _ e
  · have hsz : (intItems xs).size = xs.size := by simp [intItems]
    refine h v g tk (fun z => by have := p1 (by rw [hsz]; exact z); rw [hsz] at this; exact this) (fun z => p2 (by rw [hsz]; exact z)) (old_kept (l := l) fun b o hb e => ?_)
    exact keep b o hb (Nat.ne_of_lt (Heap.lt_size e)) (Heap.get?_push_of_some _ e)
end
theorem rawD {prog : Program} {w : World} {A : Around} {E : Value → Shared → Prop} {s : Shared} {l : Addr} {its : List Value} {ns : List Int} {z : Int} {t : Tok} {Q : Value → Shared → Prop} (hh : A.handled = none) (hl : s.heap.IsList l its.toArray) (hi : IntsAre its ns)
    (h : ∀ (g : Heap) (tk : Nat) (m : Int) (t' : Tok), (∀ b o, s.heap.get? b = some o → g.get? b = some o) → (ns = [] → m = z) → (ns ≠ [] → m ∈ ns ∧ ∀ y ∈ ns, m ≤ y) → Q (.int m t') { s with heap := g, toks := tk }) :
    wpAny (model prog w) A (call (.builtin "min") [.ref l] (kwD (.int z t))) Q E s := by
  obtain ⟨xs, e⟩ := hi.allInts.items
  have hn : numsOf (intItems xs).toList = ns := by rw [← e]; exact hi.numsOf
  rw [PySem.nums_intItems] at hn
  subst hn
  rw [e] at hl
  refine callD hh hl fun v g tk p1 p2 keep => ?_
  by_cases c : 0 < xs.size
  · obtain ⟨u, rfl⟩ := intItems_at (p1 c)
    obtain ⟨a1, a2⟩ := argBest_lt (numAt xs) (xs.size - 1)
    refine h g tk _ u keep (fun z => ?_) fun _ => ⟨?_, fun y hy => ?_⟩
    · have q : xs.size = 0 := by simpa using congrArg List.length z
      omega
    · rw [PySem.numAt_eq]
      refine PySem.getD_mem ?_
      rw [List.length_map, Array.length_toList]
      exact Nat.lt_of_le_of_lt a1 (by omega)
    · obtain ⟨j, hj, rfl⟩ := PySem.mem_getD hy
      rw [List.length_map, Array.length_toList] at hj
      rw [← PySem.numAt_eq]
      exact a2 j (by omega)
  · rw [p2 (by omega)]
    refine h g tk z t keep (fun _ => rfl) fun q => absurd ?_ q
    have : xs = #[] := Array.eq_empty_of_size_eq_zero (by omega)
    rw [this]
    rfl
end MinD
namespace Bx
open PySem PySem.Spec PyProof.Rows L2
def rMinD (K : PySem.W.Frag) : List V → List V → Hp → VK → Prop := fun xs zs H Q => ∃ (a : Addr) (ns : List Int) (z : Int), xs = [.ref a] ∧ zs = [.int z] ∧ SqL K H a (ns.map V.int) ∧
  ∀ m, (ns = [] → m = z) → (ns ≠ [] → m ∈ ns ∧ ∀ y ∈ ns, m ≤ y) → Q (.int m) H
theorem call_minD {X : Cx} {K : PySem.W.Frag} (h : X.K = K) (hc : X.calm = true) : CallRK X (.builtin "min") ["default"] (rMinD K) := by
  subst h
  intro pins s σ H xs zs us ws Q I r r2 hw
  obtain ⟨a, ns, z, rfl, rfl, hs, q⟩ := hw
  obtain ⟨its, rv, hl, _⟩ := I.list hs
  rw [Vals.ref1 r]
  obtain ⟨u, rfl, ru⟩ := vals1 r2
  obtain ⟨t, rfl⟩ := ru
  exact MinD.rawD (I.ok.hd hc) hl.isList rv.ints fun g tk m t' hk h1 h2 => ⟨.int m, H, I.kept hk, ⟨_, rfl⟩, q m h1 h2⟩
end Bx
namespace Bx
open PySem PySem.Spec PyProof.Rows L2
/-! ### rules over the written part by its name -/
section
variable {X : Cx} {K : PySem.W.Frag}
theorem ix_tupK (h : X.K = K) : IxR X (rIxT K) := h ▸ ix_tup
theorem ix_listK (h : X.K = K) : IxR X (rIxL K) := h ▸ ix_list
theorem ix_seqK (h : X.K = K) : IxR X (rIx K) := h ▸ ix_seq
def rLen (K : PySem.W.Frag) : List V → Hp → VK → Prop := fun xs H Q => ∃ (p : Addr) (ys : List V), xs = [.ref p] ∧ (SqL K H p ys ∨ SqT K H p ys) ∧ Q (.int ys.length) H
theorem call_lenK (h : X.K = K) : CallR X (.builtin "len") (rLen K) := by
  subst h
  exact call_len_seq
def rTupOf (K : PySem.W.Frag) : List V → Hp → VK → Prop := fun xs H Q => ∃ (p : Addr) (ys : List V), xs = [.ref p] ∧ ((SqL K H p ys ∧ ∀ l, H l = none → Q (.ref l) (upd H l (.tup ys))) ∨ (SqT K H p ys ∧ Q (.ref p) H))
theorem call_tuple_ofK (h : X.K = K) : CallR X (.type "tuple") (rTupOf K) := by
  subst h
  exact call_tuple_of
def rLstOf (K : PySem.W.Frag) : List V → Hp → VK → Prop := fun xs H Q => ∃ (p : Addr) (ys : List V), xs = [.ref p] ∧ (SqL K H p ys ∨ SqT K H p ys) ∧ ∀ l, H l = none → Q (.ref l) (upd H l (.lst ys))
theorem call_list_ofK (h : X.K = K) : CallR X (.type "list") (rLstOf K) := by
  subst h
  exact call_list_of
end
end Bx
/-! ### heaps: what one list at d may lose, all else as it was -/
namespace Bx
open PySem PySem.Spec PyProof.Rows L2
def Kp (d : Addr) (H H' : Hp) : Prop := ∀ b o, b ≠ d → H b = some o → H' b = some o
theorem Kp.refl (d : Addr) (H : Hp) : Kp d H H := fun _ _ _ h => h
theorem Kp.trans {d : Addr} {H H1 H2 : Hp} (a : Kp d H H1) (b : Kp d H1 H2) : Kp d H H2 := fun c o n h => b c o n (a c o n h)
theorem Same.kp {d : Addr} {H H' : Hp} (s : Same H H') : Kp d H H' := fun b o _ h => s b o h
theorem Kp.own {d : Addr} {H : Hp} {o : HO} : Kp d H (upd H d o) := fun b _ n h => by rw [upd_ne n]; exact h
theorem same_new {H : Hp} {p : Addr} {o : HO} (h : H p = none) : Same H (upd H p o) := fun b x e => by
  rw [upd_ne (ne_of_none e h)]
  exact e
theorem Kp.new {d p : Addr} {H : Hp} {o : HO} (h : H p = none) : Kp d H (upd H p o) := Same.kp (same_new h)
theorem upd_self {H : Hp} {d : Addr} {o : HO} (h : H d = some o) : upd H d o = H := by
  funext b
  by_cases e : b = d
  · rw [e, upd_same, h]
  · rw [upd_ne e]
/-- a list of ints at d -/
def Ints (H : Hp) (d : Addr) (xs : List Int) : Prop := H d = some (.lst (xs.map V.int))
/-- the draws: some list of ints -/
def Drw (H : Hp) (d : Addr) : Prop := ∃ ds : List Int, H d = some (.lst (ds.map V.int))
theorem Drw.new {H : Hp} {d p : Addr} {o : HO} (h : Drw H d) (n : H p = none) : Drw (upd H p o) d := by
  obtain ⟨ds, e⟩ := h
  exact ⟨ds, same_new n _ _ e⟩
theorem Drw.own {H : Hp} {d : Addr} {ds : List Int} : Drw (upd H d (.lst (ds.map V.int))) d := ⟨ds, upd_same⟩
theorem Drw.same {H H' : Hp} {d : Addr} (h : Drw H d) (s : Same H H') : Drw H' d := by
  obtain ⟨ds, e⟩ := h
  exact ⟨ds, s _ _ e⟩
/-- a tuple of ints -/
def TupI (H : Hp) (a : Addr) (xs : List Int) : Prop := H a = some (.tup (xs.map V.int))
theorem Drw.ne_tup {H : Hp} {d a : Addr} {xs : List V} (h : Drw H d) (e : H a = some (.tup xs)) : a ≠ d := by
  obtain ⟨ds, e2⟩ := h
  exact ne_of e e2 (by intro z; cases z)
/-- a lasso: a pair of tuples of ints -/
def Las (H : Hp) (p : Addr) (h l : List Int) : Prop := ∃ a b, H p = some (.tup [.ref a, .ref b]) ∧ H a = some (.tup (h.map V.int)) ∧ H b = some (.tup (l.map V.int))
theorem Las.keep {H H' : Hp} {d p : Addr} {h l : List Int} (k : Kp d H H') (w : Drw H d) (x : Las H p h l) : Las H' p h l := by
  obtain ⟨a, b, e1, e2, e3⟩ := x
  exact ⟨a, b, k _ _ (w.ne_tup e1) e1, k _ _ (w.ne_tup e2) e2, k _ _ (w.ne_tup e3) e3⟩
theorem Las.same {H H' : Hp} {p : Addr} {h l : List Int} (k : Same H H') (x : Las H p h l) : Las H' p h l := by
  obtain ⟨a, b, e1, e2, e3⟩ := x
  exact ⟨a, b, k _ _ e1, k _ _ e2, k _ _ e3⟩
theorem lenI {xs : List Int} (h : xs.length ≤ 1000000) : (xs.map V.int).length < sizeLine := by
  rw [List.length_map]
  exact Nat.lt_of_le_of_lt h (by decide)
theorem ixN_at {n j : Nat} (h : j < n) : ixN n (j : Int) = some j := by
  unfold ixN
  rw [if_pos (by omega), if_pos (by omega)]
  rfl
theorem set_mapI {xs : List Int} {j : Nat} {v : Int} : (xs.map V.int).set j (.int v) = (xs.set j v).map V.int := by rw [List.map_set]
/-- a list or a tuple of ints -/
def SeqI (H : Hp) (a : Addr) (xs : List Int) : Prop := H a = some (.lst (xs.map V.int)) ∨ H a = some (.tup (xs.map V.int))
theorem SeqI.sq {K : PySem.W.Frag} {H : Hp} {a : Addr} {xs : List Int} (h : SeqI H a xs) : SqL K H a (xs.map V.int) ∨ SqT K H a (xs.map V.int) := by
  rcases h with h | h
  · exact .inl (.of h)
  · exact .inr (.of h)
theorem SeqI.same {H H' : Hp} {a : Addr} {xs : List Int} (k : Same H H') (h : SeqI H a xs) : SeqI H' a xs := by
  rcases h with h | h
  · exact .inl (k _ _ h)
  · exact .inr (k _ _ h)
/-- a pair of lists or tuples of ints -/
def Pr (H : Hp) (p : Addr) (h l : List Int) : Prop := ∃ a b, H p = some (.tup [.ref a, .ref b]) ∧ SeqI H a h ∧ SeqI H b l
theorem Las.pr {H : Hp} {p : Addr} {h l : List Int} (x : Las H p h l) : Pr H p h l := by
  obtain ⟨a, b, e1, e2, e3⟩ := x
  exact ⟨a, b, e1, .inr e2, .inr e3⟩
theorem Pr.same {H H' : Hp} {p : Addr} {h l : List Int} (k : Same H H') (x : Pr H p h l) : Pr H' p h l := by
  obtain ⟨a, b, e1, e2, e3⟩ := x
  exact ⟨a, b, k _ _ e1, e2.same k, e3.same k⟩
/-- an item -/
theorem ixq {K : PySem.W.Frag} {H : Hp} {a : Addr} {xs : List Int} {i : Int} {j : Nat} {v : V} {Q : VK} (h : SeqI H a xs) (ei : i = (j : Int)) (e : (xs.map V.int)[j]? = some v) (q : Q v H) : rIx K (.ref a) (.int i) H Q := by
  subst ei
  rcases h with h | h
  · exact .inl ⟨_, _, _, _, rfl, rfl, .of h, atI_nat e, q⟩
  · exact .inr (.inl ⟨_, _, _, _, rfl, rfl, .of h, atI_nat e, q⟩)
theorem ixq_last {K : PySem.W.Frag} {H : Hp} {a : Addr} {xs : List Int} {z : Int} {Q : VK} (h : SeqI H a xs) (e : xs.getLast? = some z) (q : Q (.int z) H) : rIx K (.ref a) (.int (-1)) H Q := by
  obtain ⟨ys, rfl⟩ := List.getLast?_eq_some_iff.mp e
  have g : atI ((ys ++ [z]).map V.int) (-1) = some (.int z) := by
    rw [List.map_append]
    exact atI_last _ _
  rcases h with h | h
  · exact .inl ⟨_, _, _, _, rfl, rfl, .of h, g, q⟩
  · exact .inr (.inl ⟨_, _, _, _, rfl, rfl, .of h, g, q⟩)
theorem at_map {xs : List Int} {j : Nat} (h : j < xs.length) : (xs.map V.int)[j]? = some (.int (xs.getD j 0)) := by
  rw [List.getElem?_map, List.getElem?_eq_getElem h, List.getD_eq_getElem?_getD, List.getElem?_eq_getElem h]
  rfl
/-! slices -/
section
variable {X : Cx} {K : PySem.W.Frag}
def rSlQ (K : PySem.W.Frag) : V → Option Int → Option Int → Hp → VK → Prop := fun x lo hi H Q => rSlL K x lo hi H Q ∨ rSlA K x lo hi H Q
theorem sl_seqK (h : X.K = K) : SlR X (rSlQ K) := by
  subst h
  exact sl_list.or sl_tupA
theorem sl_tupK (h : X.K = K) : SlR X (rSlA K) := by
  subst h
  exact sl_tupA
theorem sl_listK (h : X.K = K) : SlR X (rSlL K) := by
  subst h
  exact sl_list
theorem op_catK (h : X.K = K) : OpR X (binaryOp .Add) (rCatA K) := by
  subst h
  exact op_catA
theorem op_repTK (h : X.K = K) : OpR X (binaryOp .Mult) (rRepT K) := by
  subst h
  exact op_repT
theorem op_eqDK (h : X.K = K) (hu : X.A.units + 64 < cLine) : OpR X (compareOp .Eq) (rEqD K) := by
  subst h
  exact op_eqD hu
theorem op_neDK (h : X.K = K) (hu : X.A.units + 64 < cLine) : OpR X (compareOp .NotEq) (rNeD K) := by
  subst h
  exact op_neD hu
theorem call_minK (h : X.K = K) (hc : X.calm = true) : CallR X (.builtin "min") (rMin K) := by
  subst h
  exact cr_min hc
theorem call_isiK' (h : X.K = K) : CallR X (.builtin "isinstance") (rIsi K) := by
  subst h
  exact call_isi
end
theorem cut_map {xs : List Int} {lo hi : Option Int} : cutV (xs.map V.int) lo hi = ((xs.drop (HT.sIx xs.length 0 lo)).take (HT.sIx xs.length xs.length hi - HT.sIx xs.length 0 lo)).map V.int := by
  unfold cutV
  rw [List.length_map, List.map_take, List.map_drop]
/-- a slice of a tuple -/
theorem slt {K : PySem.W.Frag} {H : Hp} {a : Addr} {xs ys : List Int} {lo hi : Option Int} {Q : VK} (h : TupI H a xs) (e : (xs.drop (HT.sIx xs.length 0 lo)).take (HT.sIx xs.length xs.length hi - HT.sIx xs.length 0 lo) = ys)
    (q : ∀ (H' : Hp) (p : Addr), Same H H' → TupI H' p ys → Q (.ref p) H') : rSlA K (.ref a) lo hi H Q := by
  subst e
  refine ⟨a, _, rfl, .of h, fun w => ?_, fun _ p hp => q _ p (same_new hp) ?_⟩
  · refine q H a (Same.refl H) ?_
    rw [List.length_map] at w
    rw [w.1, w.2, List.drop_zero, Nat.sub_zero, List.take_length]
    exact h
  · unfold TupI
    rw [upd_same, cut_map]
/-- a slice of a list or tuple -/
theorem slq {K : PySem.W.Frag} {H : Hp} {a : Addr} {xs ys : List Int} {lo hi : Option Int} {Q : VK} (h : SeqI H a xs) (e : (xs.drop (HT.sIx xs.length 0 lo)).take (HT.sIx xs.length xs.length hi - HT.sIx xs.length 0 lo) = ys)
    (q : ∀ (H' : Hp) (p : Addr), Same H H' → SeqI H' p ys → Q (.ref p) H') : rSlQ K (.ref a) lo hi H Q := by
  rcases h with h | h
  · subst e
    refine .inl ⟨a, _, rfl, .of h, fun p hp => q _ p (same_new hp) (.inl ?_)⟩
    rw [upd_same, cut_map]
  · exact .inr (slt h e fun H' p s t => q H' p s (.inr t))
theorem cut_to (xs : List Int) (n : Nat) : (xs.drop (HT.sIx xs.length 0 none)).take (HT.sIx xs.length xs.length (some (n : Int)) - HT.sIx xs.length 0 none) = xs.take n := by
  rw [HT.sIx_none, HT.sIx_nat, List.drop_zero, Nat.sub_zero]
  rcases Nat.le_total n xs.length with c | c
  · rw [Nat.min_eq_left c]
  · rw [Nat.min_eq_right c, List.take_length, List.take_of_length_le c]
theorem cut_from (xs : List Int) {n : Nat} (hn : n ≤ xs.length) : (xs.drop (HT.sIx xs.length 0 (some (n : Int)))).take (HT.sIx xs.length xs.length none - HT.sIx xs.length 0 (some (n : Int))) = xs.drop n := by
  rw [HT.sIx_none, HT.sIx_nat, Nat.min_eq_left hn]
  exact List.take_of_length_le (by rw [List.length_drop]; exact Nat.le_refl _)
theorem slt_to {K : PySem.W.Frag} {H : Hp} {a : Addr} {xs : List Int} {k : Int} {n : Nat} {Q : VK} (h : TupI H a xs) (ek : k = (n : Int))
    (q : ∀ (H' : Hp) (p : Addr), Same H H' → TupI H' p (xs.take n) → Q (.ref p) H') : rSlA K (.ref a) none (some k) H Q := by
  subst ek
  exact slt h (cut_to xs n) q
theorem slt_from {K : PySem.W.Frag} {H : Hp} {a : Addr} {xs : List Int} {k : Int} {n : Nat} {Q : VK} (h : TupI H a xs) (ek : k = (n : Int)) (hn : n ≤ xs.length)
    (q : ∀ (H' : Hp) (p : Addr), Same H H' → TupI H' p (xs.drop n) → Q (.ref p) H') : rSlA K (.ref a) (some k) none H Q := by
  subst ek
  exact slt h (cut_from xs hn) q
theorem slq_to {K : PySem.W.Frag} {H : Hp} {a : Addr} {xs : List Int} {k : Int} {n : Nat} {Q : VK} (h : SeqI H a xs) (ek : k = (n : Int))
    (q : ∀ (H' : Hp) (p : Addr), Same H H' → SeqI H' p (xs.take n) → Q (.ref p) H') : rSlQ K (.ref a) none (some k) H Q := by
  subst ek
  exact slq h (cut_to xs n) q
theorem slq_mid {K : PySem.W.Frag} {H : Hp} {a : Addr} {xs : List Int} {k k2 : Int} {n m : Nat} {Q : VK} (h : SeqI H a xs) (ek : k = (n : Int)) (ek2 : k2 = (m : Int)) (hn : n ≤ xs.length) (hm : m ≤ xs.length)
    (q : ∀ (H' : Hp) (p : Addr), Same H H' → SeqI H' p ((xs.drop n).take (m - n)) → Q (.ref p) H') : rSlQ K (.ref a) (some k) (some k2) H Q := by
  subst ek
  subst ek2
  refine slq h ?_ q
  rw [HT.sIx_nat, HT.sIx_nat, Nat.min_eq_left hn, Nat.min_eq_left hm]
/-- tuple(x) -/
theorem tupq {K : PySem.W.Frag} {H : Hp} {a : Addr} {xs : List Int} {Q : VK} (h : SeqI H a xs) (q : ∀ (H' : Hp) (p : Addr), Same H H' → TupI H' p xs → Q (.ref p) H') : rTupOf K [.ref a] H Q := by
  rcases h with h | h
  · exact ⟨a, _, rfl, .inl ⟨.of h, fun p hp => q _ p (same_new hp) upd_same⟩⟩
  · exact ⟨a, _, rfl, .inr ⟨.of h, q H a (Same.refl H) h⟩⟩
/-- x + y of tuples -/
theorem catq {K : PySem.W.Frag} {H : Hp} {a b : Addr} {xs ys : List Int} {Q : VK} (h : TupI H a xs) (g : TupI H b ys) (hl : xs.length + ys.length ≤ 1000000) (q : ∀ (H' : Hp) (p : Addr), Same H H' → TupI H' p (xs ++ ys) → Q (.ref p) H') : rCatA K (.ref a) (.ref b) H Q := by
  refine ⟨a, b, _, _, rfl, rfl, .of h, .of g, ?_, fun z => ?_, fun _ z => ?_, fun _ _ p hp => ?_⟩
  · rw [List.length_map, List.length_map]
    exact Nat.le_trans hl (by decide)
  · have e : xs = [] := List.map_eq_nil_iff.mp z
    refine q H b (Same.refl H) ?_
    rw [e]
    exact g
  · have e : ys = [] := List.map_eq_nil_iff.mp z
    refine q H a (Same.refl H) ?_
    rw [e, List.append_nil]
    exact h
  · refine q _ p (same_new hp) ?_
    unfold TupI
    rw [upd_same, List.map_append]
/-- a slice of a list -/
theorem sll_from {K : PySem.W.Frag} {H : Hp} {a : Addr} {xs : List Int} {k : Int} {n : Nat} {Q : VK} (h : H a = some (.lst (xs.map V.int))) (ek : k = (n : Int)) (hn : n ≤ xs.length)
    (q : ∀ p, H p = none → Q (.ref p) (upd H p (.lst ((xs.drop n).map V.int)))) : rSlL K (.ref a) (some k) none H Q := by
  subst ek
  refine ⟨a, _, rfl, .of h, fun p hp => ?_⟩
  rw [cut_map, cut_from xs hn]
  exact q p hp
theorem sll_to {K : PySem.W.Frag} {H : Hp} {a : Addr} {xs : List Int} {k : Int} {n : Nat} {Q : VK} (h : H a = some (.lst (xs.map V.int))) (ek : k = (n : Int))
    (q : ∀ p, H p = none → Q (.ref p) (upd H p (.lst ((xs.take n).map V.int)))) : rSlL K (.ref a) none (some k) H Q := by
  subst ek
  refine ⟨a, _, rfl, .of h, fun p hp => ?_⟩
  rw [cut_map, cut_to xs n]
  exact q p hp
/-! == of data -/
theorem eqvAll_int : ∀ xs ys : List Int, PyData.eqvAll (xs.map PyData.int) (ys.map PyData.int) = decide (xs = ys)
  | [], [] => by simp [PyData.eqvAll]
  | [], y :: ys => by simp [PyData.eqvAll]
  | x :: xs, [] => by simp [PyData.eqvAll]
  | x :: xs, y :: ys => by
    rw [List.map_cons, List.map_cons, PyData.eqvAll, eqvAll_int xs ys, PyData.eqv]
    by_cases c : x = y
    · by_cases d : xs = ys
      · simp [c, d]
      · simp [c, d]
    · simp [c]
theorem eqv_tup (xs ys : List Int) : PyData.eqv (.tuple (xs.map PyData.int)) (.tuple (ys.map PyData.int)) = decide (xs = ys) := by
  rw [PyData.eqv]
  exact eqvAll_int xs ys
theorem eqv_lst (xs ys : List Int) : PyData.eqv (.list (xs.map PyData.int)) (.list (ys.map PyData.int)) = decide (xs = ys) := by
  rw [PyData.eqv]
  exact eqvAll_int xs ys
theorem layAll : ∀ xs : List Int, PyData.canLayAll0 (xs.map PyData.int) = true
  | [] => rfl
  | x :: xs => by
    rw [List.map_cons, PyData.canLayAll0, layAll xs]
    rfl
theorem depAll : ∀ xs : List Int, PyData.depthAll (xs.map PyData.int) = 0
  | [] => by simp [PyData.depthAll]
  | x :: xs => by
    rw [List.map_cons, PyData.depthAll, depAll xs]
    simp [PyData.depth]
theorem shaped_tup (xs : List Int) : SeqAt.shaped (.tuple (xs.map PyData.int)) = true := by
  unfold SeqAt.shaped
  rw [PyData.canLay0, layAll, PyData.depth, depAll]
  rfl
theorem shaped_lst (xs : List Int) : SeqAt.shaped (.list (xs.map PyData.int)) = true := by
  unfold SeqAt.shaped
  rw [PyData.canLay0, layAll, PyData.depth, depAll]
  rfl
theorem dpAll_int {K : PySem.W.Frag} {H : Hp} : ∀ xs : List Int, DpAll K H (xs.map V.int) (xs.map PyData.int)
  | [] => .nil
  | x :: xs => .cons (.int x) (dpAll_int xs)
theorem dp_lst {K : PySem.W.Frag} {H : Hp} {a : Addr} {xs : List Int} (h : H a = some (.lst (xs.map V.int))) : Dp K H (.ref a) (.list (xs.map PyData.int)) := .lst (.of h) (dpAll_int xs)
theorem dp_tup {K : PySem.W.Frag} {H : Hp} {a : Addr} {xs : List Int} (h : TupI H a xs) : Dp K H (.ref a) (.tuple (xs.map PyData.int)) := .tup (.of h) (dpAll_int xs)
theorem ite_ne {x y : Int} {A B : Prop} (h1 : x ≠ y → A) (h2 : x = y → B) : if (!decide (V.int x = V.int y)) = true then A else B := by
  by_cases c : x = y
  · rw [c, decide_eq_true rfl]
    exact iteF (h2 c)
  · rw [decide_eq_false (fun z => c (V.int.inj z))]
    exact iteT (h1 c)
theorem ite_eq {x y : Int} {A B : Prop} (h1 : x = y → A) (h2 : x ≠ y → B) : if decide (V.int x = V.int y) = true then A else B := by
  by_cases c : x = y
  · rw [c, decide_eq_true rfl]
    exact iteT (h1 c)
  · rw [decide_eq_false (fun z => c (V.int.inj z))]
    exact iteF (h2 c)
theorem ite_lt {x y : Int} {A B : Prop} (h1 : x < y → A) (h2 : y ≤ x → B) : if decide (x < y) = true then A else B := by
  by_cases c : x < y
  · rw [decide_eq_true c]
    exact iteT (h1 c)
  · rw [decide_eq_false c]
    exact iteF (h2 (by omega))
/-! ### the letters of a word -/
def wat (h l : List Int) (t : Nat) : Int := if t < h.length then h.getD t 0 else l.getD ((t - h.length) % l.length) 0
theorem wat_head {h l : List Int} {t : Nat} (c : t < h.length) : (h.map V.int)[t]? = some (.int (wat h l t)) := by
  unfold wat
  rw [if_pos c, List.getElem?_map, List.getElem?_eq_getElem c, List.getD_eq_getElem?_getD, List.getElem?_eq_getElem c]
  rfl
theorem wat_loop {h l : List Int} {t : Nat} (c : ¬ t < h.length) (n : l ≠ []) : (l.map V.int)[(t - h.length) % l.length]? = some (.int (wat h l t)) := by
  have hl : 0 < l.length := List.length_pos_iff.mpr n
  have c2 : (t - h.length) % l.length < l.length := Nat.mod_lt _ hl
  unfold wat
  rw [if_neg c, List.getElem?_map, List.getElem?_eq_getElem c2, List.getD_eq_getElem?_getD, List.getElem?_eq_getElem c2]
  rfl
theorem ix_mod {t n m : Nat} (h : n ≤ t) : ((t : Int) - (n : Int)) % (m : Int) = (((t - n) % m : Nat) : Int) := by
  have e : ((t : Int) - (n : Int)) = ((t - n : Nat) : Int) := by omega
  rw [e]
  rfl
/-! ### promises of the helpers -/
def spTake : Sp := fun vs H Q _ => ∃ (d : Addr) (n : Int), vs = [.ref d, .int n] ∧ Drw H d ∧ 0 < n ∧
  ∀ (r : Int) (ds : List Int), 0 ≤ r → r < n → Q (.int r) (upd H d (.lst (ds.map V.int)))
def spDraws (K : PySem.W.Frag) : Sp := fun vs H Q _ => ∃ (a : Addr) (ns : List Int) (c : Nat), vs = [.ref a, .int c] ∧ SqL K H a (ns.map V.int) ∧ c ≤ 1000 ∧
  ∀ (H' : Hp) (d : Addr), Same H H' → H d = none → Drw H' d → Q (.ref d) H'
def spAt : Sp := fun vs H Q _ => ∃ (p : Addr) (h l : List Int) (t : Nat), vs = [.ref p, .int t] ∧ Pr H p h l ∧ l ≠ [] ∧ Q (.int (wat h l t)) H
def spLasso : Sp := fun vs H Q _ => ∃ (d : Addr) (n : Int) (m : Nat), vs = [.ref d, .int n, .int m] ∧ Drw H d ∧ 0 < n ∧ 0 < m ∧ m ≤ 1000 ∧
  ∀ (H' : Hp) (p : Addr) (h l : List Int), Kp d H H' → Drw H' d → Las H' p h l → h.length ≤ m → l ≠ [] → l.length ≤ m → (∀ x ∈ h, 0 ≤ x ∧ x < n) → (∀ x ∈ l, 0 ≤ x ∧ x < n) → Q (.ref p) H'
/-- v says where f and g first differ below n -/
def IsDiff (f g : Nat → Int) (n : Nat) (v : V) : Prop := (v = .non ∧ ∀ t < n, f t = g t) ∨ ∃ t, t < n ∧ v = .int (t : Nat) ∧ f t ≠ g t ∧ ∀ s < t, f s = g s
theorem IsDiff.uniq {f g : Nat → Int} {n : Nat} {v u : V} (a : IsDiff f g n v) (b : IsDiff f g n u) : v = u := by
  rcases a with ⟨rfl, a⟩ | ⟨t, ht, rfl, a1, a2⟩
  · rcases b with ⟨rfl, b⟩ | ⟨s, hs, rfl, b1, b2⟩
    · rfl
    · exact absurd (a s hs) b1
  · rcases b with ⟨rfl, b⟩ | ⟨s, hs, rfl, b1, b2⟩
    · exact absurd (b t ht) a1
    · rcases Nat.lt_trichotomy t s with c | c | c
      · exact absurd (b2 t c) a1
      · rw [c]
      · exact absurd (a2 s c) b1
theorem IsDiff.swap {f g : Nat → Int} {n : Nat} {v : V} (a : IsDiff f g n v) : IsDiff g f n v := by
  rcases a with ⟨rfl, a⟩ | ⟨t, ht, rfl, a1, a2⟩
  · exact .inl ⟨rfl, fun t h => (a t h).symm⟩
  · exact .inr ⟨t, ht, rfl, a1.symm, fun s h => (a2 s h).symm⟩
def dfn (h1 l1 h2 l2 : List Int) : Nat := max h1.length h2.length + l1.length + l2.length
def spFd : Sp := fun vs H Q _ => ∃ (p q : Addr) (h1 l1 h2 l2 : List Int), vs = [.ref p, .ref q] ∧ Las H p h1 l1 ∧ Las H q h2 l2 ∧ l1 ≠ [] ∧ l2 ≠ [] ∧ dfn h1 l1 h2 l2 ≤ 1000000 ∧
  ∀ v, IsDiff (wat h1 l1) (wat h2 l2) (dfn h1 l1 h2 l2) v → Q v H
theorem max_if (a b : Nat) : (if ((b : Nat) : Int) > (a : Int) then (b : Int) else (a : Int)) = ((max a b : Nat) : Int) := by
  by_cases h : ((b : Nat) : Int) > (a : Int)
  · rw [if_pos h]
    omega
  · rw [if_neg h]
    omega
/-- the letters of a list, by places -/
def lw (l : List Int) : Nat → Int := fun i => l.getD i 0
def spPeriod : Sp := fun vs H Q _ => ∃ (a : Addr) (l : List Int), vs = [.ref a] ∧ SeqI H a l ∧ l ≠ [] ∧ l.length ≤ 1000000 ∧
  ∀ (H' : Hp) (r : Nat), Same H H' → Wd.Least (lw l) l.length r → Q (.int r) H'
/-- the normal form (h', l') of (h, l) -/
structure Short (h l h' l' : List Int) : Prop where
  ne : l' ≠ []
  same : ∀ t, wat h' l' t = wat h l t
  hl : h'.length ≤ h.length
  ll : l'.length ≤ l.length
  last : h' ≠ [] → h'.getLast? ≠ l'.getLast?
  prim : ∀ p, 0 < p → p < l'.length → p ∣ l'.length → ∃ i, i + p < l'.length ∧ lw l' i ≠ lw l' (i + p)
  memH : ∀ x ∈ h', x ∈ h
  memL : ∀ x ∈ l', x ∈ l
/-- the letter of the repeated word at any whole number of turns from where it begins -/
def bk (l : List Int) (r : Nat) (z : Int) : Int := lw l ((z % (r : Int)).toNat)
def rot (l : List Int) (r c : Nat) : List Int := (l.drop c).take (r - c) ++ l.take c
theorem rot_len {l : List Int} {r c : Nat} (hc : c < r) (hr : r ≤ l.length) : (rot l r c).length = r := by
  unfold rot
  rw [List.length_append, List.length_take, List.length_drop, List.length_take]
  omega
theorem lw_get {l : List Int} {i : Nat} (h : i < l.length) : l[i]? = some (lw l i) := by
  unfold lw
  rw [List.getD_eq_getElem?_getD, List.getElem?_eq_getElem h]
  rfl
theorem lw_of {l : List Int} {i : Nat} {x : Int} (h : l[i]? = some x) : lw l i = x := by
  unfold lw
  rw [List.getD_eq_getElem?_getD, h]
  rfl
theorem rot_at {l : List Int} {r c j : Nat} (hc : c < r) (hr : r ≤ l.length) (hj : j < r) : lw (rot l r c) j = lw l ((j + c) % r) := by
  apply lw_of
  unfold rot
  have e1 : ((l.drop c).take (r - c)).length = r - c := by
    rw [List.length_take, List.length_drop]
    omega
  rcases Nat.lt_or_ge j (r - c) with h | h
  · rw [List.getElem?_append_left (by rw [e1]; exact h), List.getElem?_take, if_pos h, List.getElem?_drop, Nat.mod_eq_of_lt (by omega), Nat.add_comm c j]
    exact lw_get (by omega)
  · rw [List.getElem?_append_right (by rw [e1]; exact h), e1, List.getElem?_take, if_pos (by omega)]
    have e2 : (j + c) % r = j - (r - c) := by
      rw [Nat.mod_eq_sub_mod (by omega), Nat.mod_eq_of_lt (by omega)]
      omega
    rw [e2]
    exact lw_get (by omega)
theorem bk_shift {l : List Int} {r : Nat} {a b z : Int} (h : a = b + r * z) : bk l r a = bk l r b := by
  unfold bk
  rw [h, Int.add_mul_emod_self_left]
theorem bk_nat {l : List Int} {r t : Nat} : bk l r (t : Int) = lw l (t % r) := rfl
theorem least_le {w : Nat → Int} {n r : Nat} (hn : 0 < n) (L : Wd.Least w n r) : r ≤ n := Nat.le_of_dvd hn L.dvd
/-- the letters of l repeated, by the least repetition -/
theorem cyc_least {l : List Int} {r : Nat} (hn : 0 < l.length) (L : Wd.Least (lw l) l.length r) (i : Nat) : lw l (i % l.length) = bk l r (i : Int) := by
  have h1 : Wd.cyc (lw l) l.length i = Wd.cyc (lw l) l.length (i % r) := L.rp.mod
  have h2 : Wd.cyc (lw l) l.length (i % r) = lw l (i % r) := Wd.cyc_lt (Nat.lt_of_lt_of_le (Nat.mod_lt _ L.pos) (least_le hn L))
  rw [bk_nat, ← h2, ← h1]
  rfl
theorem cut_lt {r : Nat} (hr : 0 < r) (z : Int) : (z % (r : Int)).toNat < r := by
  have h1 := Int.emod_nonneg z (show (r : Int) ≠ 0 by omega)
  have h2 := Int.emod_lt_of_pos z (show (0 : Int) < (r : Int) by omega)
  omega
theorem cut_int {r : Nat} (hr : 0 < r) (z : Int) : (((z % (r : Int)).toNat : Nat) : Int) = z - r * (z / r) := by
  have h1 := Int.emod_nonneg z (show (r : Int) ≠ 0 by omega)
  rw [Int.toNat_of_nonneg h1, Int.emod_def]
theorem rot_bk {l : List Int} {r : Nat} (hr0 : 0 < r) (hr : r ≤ l.length) (z : Int) (j : Nat) : lw (rot l r (z % (r : Int)).toNat) (j % r) = bk l r ((j : Int) + z) := by
  rw [rot_at (cut_lt hr0 z) hr (Nat.mod_lt _ hr0), Nat.mod_add_mod]
  have h : bk l r (((j + (z % (r : Int)).toNat : Nat)) : Int) = bk l r ((j : Int) + z) := bk_shift (z := -(z / r)) (by
    rw [Int.natCast_add, cut_int hr0, Int.mul_neg]
    omega)
  rw [← h]
  rfl
theorem short_of {h l : List Int} {r k : Nat} (hne : l ≠ []) (L : Wd.Least (lw l) l.length r) (hk : k ≤ h.length)
    (hB : ∀ t, k ≤ t → t < h.length → lw h t = bk l r ((t : Int) - (h.length : Int))) (hX : k = 0 ∨ lw h (k - 1) ≠ bk l r ((k : Int) - 1 - (h.length : Int))) :
    Short h l (h.take k) (rot l r (((k : Int) - (h.length : Int)) % (r : Int)).toNat) := by
  have hn : 0 < l.length := List.length_pos_iff.mpr hne
  have hr0 := L.pos
  have hr := least_le hn L
  have hlen := rot_len (cut_lt hr0 ((k : Int) - (h.length : Int))) hr
  have htk : (h.take k).length = k := by
    rw [List.length_take]
    omega
  refine ⟨fun z => ?_, fun t => ?_, by rw [htk]; exact hk, by rw [hlen]; exact hr, fun hh => ?_, fun p hp hpl hpd => ?_, fun x hx => List.mem_of_mem_take hx, fun x hx => ?_⟩
  · rw [z] at hlen
    have : (0 : Nat) = r := hlen
    omega
  · unfold wat
    rw [htk, hlen]
    by_cases c : t < k
    · rw [if_pos c, if_pos (by omega), List.getD_eq_getElem?_getD, List.getD_eq_getElem?_getD, List.getElem?_take, if_pos c]
    · rw [if_neg c]
      have e1 := rot_bk (l := l) hr0 hr ((k : Int) - (h.length : Int)) (t - k)
      have e2 : ((t - k : Nat) : Int) + ((k : Int) - (h.length : Int)) = (t : Int) - (h.length : Int) := by omega
      rw [e2] at e1
      show lw _ _ = _
      rw [e1]
      by_cases d : t < h.length
      · rw [if_pos d]
        exact (hB t (by omega) d).symm
      · rw [if_neg d]
        have e3 : (t : Int) - (h.length : Int) = ((t - h.length : Nat) : Int) := by omega
        rw [e3]
        exact (cyc_least hn L _).symm
  · have hk0 : k ≠ 0 := fun z => hh (by rw [z]; rfl)
    rcases hX with z | z
    · exact absurd z hk0
    · rw [List.getLast?_eq_getElem?, List.getLast?_eq_getElem?, htk, hlen]
      rw [List.getElem?_take, if_pos (by omega), lw_get (show k - 1 < h.length by omega), lw_get (show r - 1 < (rot l r _).length by rw [hlen]; omega)]
      intro q
      refine z ?_
      rw [Option.some.inj q]
      have e1 := rot_bk (l := l) hr0 hr ((k : Int) - (h.length : Int)) (r - 1)
      rw [Nat.mod_eq_of_lt (show r - 1 < r by omega)] at e1
      rw [e1]
      exact bk_shift (z := 1) (by omega)
  · rw [hlen] at hpl hpd ⊢
    apply Classical.byContradiction
    intro hno
    have hall : ∀ i, i + p < r → lw (rot l r (((k : Int) - (h.length : Int)) % (r : Int)).toNat) i = lw (rot l r (((k : Int) - (h.length : Int)) % (r : Int)).toNat) (i + p) := fun i hi =>
      Classical.byContradiction fun q => hno ⟨i, hi, q⟩
    have hrp := Wd.rp_of hp hpd hr0 hall
    have key : ∀ i, Wd.cyc (lw l) l.length i = Wd.cyc (lw (rot l r (((k : Int) - (h.length : Int)) % (r : Int)).toNat)) r (i + (r - (((k : Int) - (h.length : Int)) % (r : Int)).toNat)) := by
      intro i
      have hc := cut_lt hr0 ((k : Int) - (h.length : Int))
      have a1 : Wd.cyc (lw l) l.length i = bk l r (i : Int) := cyc_least hn L i
      have a2 := rot_at hc hr (Nat.mod_lt (i + (r - (((k : Int) - (h.length : Int)) % (r : Int)).toNat)) hr0)
      rw [a1]
      show _ = lw _ (_ % r)
      rw [a2, Nat.mod_add_mod, show i + (r - (((k : Int) - (h.length : Int)) % (r : Int)).toNat) + (((k : Int) - (h.length : Int)) % (r : Int)).toNat = i + r by omega, Nat.add_mod_right]
      rfl
    have hR : Wd.Rp (lw l) l.length p := fun i => by
      rw [key, key, Nat.add_right_comm]
      exact hrp _
    have := L.min p hp (Nat.dvd_trans hpd L.dvd) hR
    omega
  · unfold rot at hx
    rcases List.mem_append.mp hx with z | z
    · exact List.mem_of_mem_drop (List.mem_of_mem_take z)
    · exact List.mem_of_mem_take z
theorem rp_mod {w : Nat → Int} {n p q : Nat} (hp : Wd.Rp w n p) (hq : Wd.Rp w n q) : Wd.Rp w n (q % p) := fun i => by
  have a := hp.mul (q / p) (i + q % p)
  rw [Nat.mul_comm, Nat.add_assoc, Nat.mod_add_div] at a
  rw [← a]
  exact hq i
theorem rp_gcd {w : Nat → Int} {n : Nat} (p q : Nat) : Wd.Rp w n p → Wd.Rp w n q → Wd.Rp w n (Nat.gcd p q) := by
  induction p, q using Nat.gcd.induction with
  | H0 q => intro _ hq; rw [Nat.gcd_zero_left]; exact hq
  | H1 p q hp ih => intro h1 h2; rw [Nat.gcd_rec]; exact ih (rp_mod h1 h2) h1
/-- the normal form -/
structure Nrm (h l : List Int) : Prop where
  ne : l ≠ []
  last : h ≠ [] → h.getLast? ≠ l.getLast?
  prim : ∀ p, 0 < p → p < l.length → p ∣ l.length → ∃ i, i + p < l.length ∧ lw l i ≠ lw l (i + p)
theorem Short.nrm {h l h' l' : List Int} (s : Short h l h' l') : Nrm h' l' := ⟨s.ne, s.last, s.prim⟩
theorem Nrm.pos {h l : List Int} (N : Nrm h l) : 0 < l.length := List.length_pos_iff.mpr N.ne
theorem wat_cyc {h l : List Int} {t : Nat} (c : h.length ≤ t) : wat h l t = Wd.cyc (lw l) l.length (t - h.length) := by
  unfold wat
  rw [if_neg (by omega)]
  rfl
/-- every period that the word has from some turn on is a multiple of the loop's length -/
theorem Nrm.dvd {h l : List Int} (N : Nrm h l) {p M : Nat} (hP : ∀ t, M ≤ t → wat h l (t + p) = wat h l t) : l.length ∣ p := by
  have hr := N.pos
  have hRp : Wd.Rp (lw l) l.length p := fun i => by
    have self := Wd.rp_self (lw l) l.length
    have e1 := self.mul M i
    have e2 := self.mul M (i + p)
    have hM : M ≤ M * l.length := Nat.le_mul_of_pos_right M hr
    have q := hP (h.length + (i + M * l.length)) (by omega)
    rw [wat_cyc (by omega), wat_cyc (by omega)] at q
    rw [show h.length + (i + M * l.length) + p - h.length = i + p + M * l.length by omega, show h.length + (i + M * l.length) - h.length = i + M * l.length by omega, e1, e2] at q
    exact q
  have hg := rp_gcd p l.length hRp (Wd.rp_self (lw l) l.length)
  have gd : Nat.gcd p l.length ∣ l.length := Nat.gcd_dvd_right p l.length
  have gp : 0 < Nat.gcd p l.length := Nat.gcd_pos_of_pos_right p hr
  have gl := Nat.le_of_dvd hr gd
  rcases Nat.lt_or_ge (Nat.gcd p l.length) l.length with c | c
  · obtain ⟨i, hi, hne⟩ := N.prim _ gp c gd
    refine absurd ?_ hne
    have := hg i
    rw [Wd.cyc_lt hi, Wd.cyc_lt (by omega)] at this
    exact this.symm
  · have e : Nat.gcd p l.length = l.length := by omega
    rw [← e]
    exact Nat.gcd_dvd_left p l.length
theorem wat_per {h l : List Int} {t : Nat} (c : h.length ≤ t) : wat h l (t + l.length) = wat h l t := by
  rw [wat_cyc c, wat_cyc (by omega), show t + l.length - h.length = (t - h.length) + l.length by omega]
  exact Wd.rp_self (lw l) l.length _
theorem last_at {l : List Int} (n : l ≠ []) : l.getLast? = some (lw l (l.length - 1)) := by
  have := List.length_pos_iff.mpr n
  rw [List.getLast?_eq_getElem?]
  exact lw_get (by omega)
theorem Nrm.head_le {h l g m : List Int} (N : Nrm h l) (hs : ∀ t, wat h l t = wat g m t) (e : l.length = m.length) : h.length ≤ g.length := by
  rcases Nat.lt_or_ge g.length h.length with c | c
  · exfalso
    have hne : h ≠ [] := List.length_pos_iff.mp (by omega)
    refine N.last hne ?_
    rw [last_at hne, last_at N.ne]
    congr 1
    have hp := N.pos
    have a1 : wat h l (h.length - 1) = lw h (h.length - 1) := by
      unfold wat
      rw [if_pos (by omega)]
      rfl
    have a2 : wat h l (h.length - 1 + l.length) = lw l (l.length - 1) := by
      rw [wat_cyc (by omega), show h.length - 1 + l.length - h.length = l.length - 1 by omega, Wd.cyc_lt (by omega)]
    rw [← a1, ← a2, hs, hs, e]
    exact (wat_per (by omega)).symm
  · exact c
theorem Nrm.uniq {h l g m : List Int} (N : Nrm h l) (M : Nrm g m) (hs : ∀ t, wat h l t = wat g m t) : h = g ∧ l = m := by
  have d1 : l.length ∣ m.length := N.dvd (M := g.length) fun t ht => by
    rw [hs, hs]
    exact wat_per ht
  have d2 : m.length ∣ l.length := M.dvd (M := h.length) fun t ht => by
    rw [← hs, ← hs]
    exact wat_per ht
  have e : l.length = m.length := Nat.dvd_antisymm d1 d2
  have e2 : h.length = g.length := Nat.le_antisymm (N.head_le hs e) (M.head_le (fun t => (hs t).symm) e.symm)
  refine ⟨List.ext_getElem e2 fun i h1 h2 => ?_, List.ext_getElem e fun i h1 h2 => ?_⟩
  · have := hs i
    unfold wat at this
    rw [if_pos h1, if_pos h2, List.getD_eq_getElem?_getD, List.getD_eq_getElem?_getD, List.getElem?_eq_getElem h1, List.getElem?_eq_getElem h2] at this
    exact this
  · have := hs (h.length + i)
    rw [wat_cyc (by omega), wat_cyc (by omega), show h.length + i - h.length = i by omega, show h.length + i - g.length = i by omega, Wd.cyc_lt h1, Wd.cyc_lt h2] at this
    have a1 := lw_get h1
    have a2 := lw_get h2
    rw [List.getElem?_eq_getElem h1] at a1
    rw [List.getElem?_eq_getElem h2] at a2
    rw [Option.some.inj a1, Option.some.inj a2, this]
theorem at_last {l : List Int} (n : l ≠ []) : atI (l.map V.int) (-1) = some (.int (lw l (l.length - 1))) := by
  have hp := List.length_pos_iff.mpr n
  have e : l.map V.int = (l.dropLast.map V.int) ++ [.int (l.getLast n)] := by
    rw [← List.map_singleton, ← List.map_append, List.dropLast_concat_getLast]
  rw [e, atI_last]
  have q := last_at n
  rw [List.getLast?_eq_getLast n] at q
  rw [Option.some.inj q]
/-! repetition of a text -/
theorem flat_at {w : List Int} : ∀ (k i : Nat), i < k * w.length → (List.replicate k w).flatten[i]? = w[i % w.length]?
  | 0, i, h => by
    rw [Nat.zero_mul] at h
    exact absurd h (Nat.not_lt_zero i)
  | k + 1, i, h => by
    rw [List.replicate_succ, List.flatten_cons]
    rcases Nat.lt_or_ge i w.length with c | c
    · rw [List.getElem?_append_left c, Nat.mod_eq_of_lt c]
    · rw [List.getElem?_append_right c, flat_at k (i - w.length) (by rw [Nat.succ_mul] at h; omega), ← Nat.mod_eq_sub_mod c]
theorem flat_per {l : List Int} {p k : Nat} (hp : 0 < p) (hpl : p ≤ l.length) (e : l = (List.replicate k (l.take p)).flatten) (hk : k * p = l.length) : ∀ i, i + p < l.length → lw l i = lw l (i + p) := by
  intro i hi
  have el : (l.take p).length = p := by
    rw [List.length_take]
    omega
  have at_ : ∀ j, j < l.length → l[j]? = (l.take p)[j % p]? := fun j hj => by
    have h0 := flat_at (w := l.take p) k j (by rw [el, hk]; exact hj)
    rw [← e, el] at h0
    exact h0
  have h1 := at_ i (by omega)
  have h2 := at_ (i + p) hi
  rw [Nat.add_mod_right, ← h1, lw_get hi, lw_get (show i < l.length by omega)] at h2
  exact (Option.some.inj h2).symm
def spShort : Sp := fun vs H Q _ => ∃ (a b : Addr) (h l : List Int), vs = [.ref a, .ref b] ∧ SeqI H a h ∧ SeqI H b l ∧ l ≠ [] ∧ h.length ≤ 100000 ∧ l.length ≤ 100000 ∧
  ∀ (H' : Hp) (p : Addr) (h' l' : List Int), Same H H' → Las H' p h' l' → Short h l h' l' → Q (.ref p) H'
/-- what suffix hands back -/
def Suf (h l : List Int) (t : Nat) (h' l' : List Int) : Prop := Nrm h' l' ∧ (∀ i, wat h' l' i = wat h l (t + i)) ∧ h'.length ≤ h.length ∧ l'.length ≤ l.length ∧ (∀ x ∈ h', x ∈ h ∨ x ∈ l) ∧ ∀ x ∈ l', x ∈ l
def spSuffix : Sp := fun vs H Q _ => ∃ (p : Addr) (h l : List Int) (t : Nat), vs = [.ref p, .int t] ∧ Las H p h l ∧ l ≠ [] ∧ h.length ≤ 50000 ∧ l.length ≤ 50000 ∧
  ∀ (H' : Hp) (p' : Addr) (h' l' : List Int), Same H H' → Las H' p' h' l' → Suf h l t h' l' → Q (.ref p') H'
def spMake : Sp := fun vs H Q _ => ∃ (a b : Addr) (h l : List Int), vs = [.ref a, .ref b] ∧ H a = some (.lst (h.map V.int)) ∧ H b = some (.lst (l.map V.int)) ∧ l ≠ [] ∧ h.length ≤ 100000 ∧ l.length ≤ 100000 ∧ (∀ x ∈ h, 0 ≤ x) ∧ (∀ x ∈ l, 0 ≤ x) ∧
  ∀ (H' : Hp) (p : Addr) (h' l' : List Int), Same H H' → Las H' p h' l' → Short h l h' l' → Q (.ref p) H'
theorem suf_drop {h l : List Int} {t : Nat} (c : t < h.length) (i : Nat) : wat (h.drop t) l i = wat h l (t + i) := by
  unfold wat
  rw [List.length_drop]
  by_cases d : t + i < h.length
  · rw [if_pos d, if_pos (by omega), List.getD_eq_getElem?_getD, List.getD_eq_getElem?_getD, List.getElem?_drop]
  · rw [if_neg d, if_neg (by omega), show t + i - h.length = i - (h.length - t) by omega]
theorem suf_turn {h l : List Int} {t : Nat} (hn : l ≠ []) (c : h.length ≤ t) (i : Nat) : wat [] (l.drop ((t - h.length) % l.length) ++ l.take ((t - h.length) % l.length)) i = wat h l (t + i) := by
  have hp : 0 < l.length := List.length_pos_iff.mpr hn
  have hc := Nat.mod_lt (t - h.length) hp
  have e : l.drop ((t - h.length) % l.length) ++ l.take ((t - h.length) % l.length) = rot l l.length ((t - h.length) % l.length) := by
    have e3 : (l.drop ((t - h.length) % l.length)).take (l.length - (t - h.length) % l.length) = l.drop ((t - h.length) % l.length) := List.take_of_length_le (by rw [List.length_drop]; exact Nat.le_refl _)
    unfold rot
    rw [e3]
  rw [e, wat_cyc (Nat.zero_le _), wat_cyc (show h.length ≤ t + i by omega), rot_len hc (Nat.le_refl _)]
  show lw _ (_ % _) = lw _ (_ % _)
  rw [rot_at hc (Nat.le_refl _) (Nat.mod_lt _ hp), Nat.mod_add_mod, Nat.add_mod_mod]
  congr 2
  show i - 0 + _ = _
  omega
def spInts : Sp := fun vs H Q _ => ∃ (a : Addr) (xs : List Int) (lo hi : Int), vs = [.ref a, .int lo, .int hi] ∧ TupI H a xs ∧ (∀ x ∈ xs, lo ≤ x ∧ x < hi) ∧ Q (.bl true) H
def spNormal : Sp := fun vs H Q _ => ∃ (p : Addr) (h l : List Int), vs = [.ref p] ∧ Las H p h l ∧ Nrm h l ∧ l.length ≤ 1000 ∧ ∀ H', Same H H' → Q (.bl true) H'
def spIsLasso : Sp := fun vs H Q _ => ∃ (p : Addr) (h l : List Int) (n : Int), vs = [.ref p, .int n] ∧ Las H p h l ∧ Nrm h l ∧ l.length ≤ 1000 ∧ (∀ x ∈ h, 0 ≤ x ∧ x < n) ∧ (∀ x ∈ l, 0 ≤ x ∧ x < n) ∧ ∀ H', Same H H' → Q (.bl true) H'
/-! the same word in other forms -/
theorem wat_mem {h l : List Int} (n : l ≠ []) (t : Nat) : wat h l t ∈ h ∨ wat h l t ∈ l := by
  have hl : 0 < l.length := List.length_pos_iff.mpr n
  unfold wat
  by_cases c : t < h.length
  · rw [if_pos c, List.getD_eq_getElem?_getD, List.getElem?_eq_getElem c]
    exact .inl (List.getElem_mem c)
  · have c2 := Nat.mod_lt (t - h.length) hl
    rw [if_neg c, List.getD_eq_getElem?_getD, List.getElem?_eq_getElem c2]
    exact .inr (List.getElem_mem c2)
theorem range_getD {f : Nat → Int} {n t : Nat} (c : t < n) : ((List.range n).map f).getD t 0 = f t := by
  rw [List.getD_eq_getElem?_getD, List.getElem?_map, List.getElem?_range c]
  rfl
theorem wat_form {h l : List Int} {m k : Nat} (n : l ≠ []) (hk : 0 < k) (t : Nat) :
    wat ((List.range (h.length + m)).map (wat h l)) ((List.range (k * l.length)).map fun t => wat h l (h.length + m + t)) t = wat h l t := by
  have hl : 0 < l.length := List.length_pos_iff.mpr n
  have hkl : 0 < k * l.length := Nat.mul_pos hk hl
  rw [show wat ((List.range (h.length + m)).map (wat h l)) ((List.range (k * l.length)).map fun t => wat h l (h.length + m + t)) t
      = if t < ((List.range (h.length + m)).map (wat h l)).length then ((List.range (h.length + m)).map (wat h l)).getD t 0 else ((List.range (k * l.length)).map fun t => wat h l (h.length + m + t)).getD ((t - ((List.range (h.length + m)).map (wat h l)).length) % ((List.range (k * l.length)).map fun t => wat h l (h.length + m + t)).length) 0 from rfl]
  rw [List.length_map, List.length_range, List.length_map, List.length_range]
  by_cases c : t < h.length + m
  · rw [if_pos c, range_getD c]
  · rw [if_neg c, range_getD (Nat.mod_lt _ hkl), wat_cyc (by omega), wat_cyc (by omega)]
    show lw l (_ % _) = lw l (_ % _)
    congr 1
    have e1 : h.length + m + (t - (h.length + m)) % (k * l.length) - h.length = m + (t - (h.length + m)) % (k * l.length) := by omega
    have e2 : t - h.length = m + (t - (h.length + m)) := by omega
    rw [e1, e2, ← Nat.add_mod_mod, Nat.mod_mod_of_dvd _ ⟨k, Nat.mul_comm k l.length⟩, Nat.add_mod_mod]
theorem wat_front (f h l : List Int) (i : Nat) : wat (f ++ h) l (f.length + i) = wat h l i := by
  unfold wat
  rw [List.length_append]
  by_cases c : i < h.length
  · rw [if_pos c, if_pos (by omega), List.getD_eq_getElem?_getD, List.getD_eq_getElem?_getD, List.getElem?_append_right (by omega), Nat.add_sub_cancel_left]
  · rw [if_neg c, if_neg (by omega), show f.length + i - (f.length + h.length) = i - h.length by omega]
def dLas (h l : List Int) : PyData := .tuple [.tuple (h.map PyData.int), .tuple (l.map PyData.int)]
theorem dp_las {K : PySem.W.Frag} {H : Hp} {p : Addr} {h l : List Int} (x : Las H p h l) : Dp K H (.ref p) (dLas h l) := by
  obtain ⟨a, b, e1, e2, e3⟩ := x
  exact .tup (.of e1) (.cons (dp_tup e2) (.cons (dp_tup e3) .nil))
theorem shaped_las (h l : List Int) : SeqAt.shaped (dLas h l) = true := by
  unfold SeqAt.shaped dLas
  rw [PyData.canLay0, PyData.canLayAll0, PyData.canLayAll0, PyData.canLayAll0, PyData.canLay0, layAll, PyData.canLay0, layAll, PyData.depth, PyData.depthAll, PyData.depthAll, PyData.depthAll, PyData.depth, depAll, PyData.depth, depAll]
  rfl
theorem eqv_las (h l : List Int) : PyData.eqv (dLas h l) (dLas h l) = true := by
  unfold dLas
  rw [PyData.eqv, PyData.eqvAll, PyData.eqvAll, PyData.eqvAll, eqv_tup, eqv_tup]
  simp
def spCell (K : PySem.W.Frag) : Sp := fun vs H Q _ => ∃ (a : Addr) (ns : List Int) (k : Nat), vs = [.ref a, .int k] ∧ SqL K H a (ns.map V.int) ∧ ∀ v : Int, Q (.int v) H
def spNegX (C : Addr) : Sp := fun vs H _ E => ∃ (p : Addr) (t : Int), vs = [.ref p, .int t] ∧ t < 0 ∧ E (.ref C) none H
def spRefuses : Sp := fun vs H Q _ => ∃ (p : Addr) (t : Int), vs = [.ref p, .int t] ∧ t < 0 ∧ Q (.bl true) H
def spSame : Sp := fun vs H Q _ => ∃ (p q : Addr) (h l h2 l2 : List Int), vs = [.ref p, .ref q] ∧ Pr H p h l ∧ Pr H q h2 l2 ∧ l ≠ [] ∧ l2 ≠ [] ∧ dfn h l h2 l2 ≤ 1000000 ∧ (∀ t, wat h l t = wat h2 l2 t) ∧ Q (.bl true) H
def spMakeX (cE cL : Addr) : Sp := fun vs H Q E => ∃ (a b : Addr) (h l : List Int), vs = [.ref a, .ref b] ∧ H a = some (.lst (h.map V.int)) ∧ H b = some (.lst (l.map V.int)) ∧ h.length ≤ 100000 ∧ l.length ≤ 100000 ∧
  (l = [] → E (.ref cE) none H) ∧ (l ≠ [] → (∃ x, (x ∈ h ∨ x ∈ l) ∧ x < 0) → E (.ref cL) none H) ∧
  (l ≠ [] → (∀ x, x ∈ h ∨ x ∈ l → 0 ≤ x) → ∀ (H' : Hp) (p : Addr) (h' l' : List Int), Same H H' → Las H' p h' l' → Short h l h' l' → Q (.ref p) H')
def spOut : Sp := fun vs H Q _ => ∃ (a b : Addr) (h l : List Int), vs = [.ref a, .ref b] ∧ H a = some (.lst (h.map V.int)) ∧ H b = some (.lst (l.map V.int)) ∧ h.length ≤ 100000 ∧ l.length ≤ 100000 ∧
  (l = [] → ∀ (H' : Hp) (p : Addr), Same H H' → H' p = some (.tup [.str "empty", .bl true]) → Q (.ref p) H') ∧
  (l ≠ [] → (∃ x, (x ∈ h ∨ x ∈ l) ∧ x < 0) → ∀ (H' : Hp) (p : Addr), Same H H' → H' p = some (.tup [.str "letter", .bl true]) → Q (.ref p) H') ∧
  (l ≠ [] → (∀ x, x ∈ h ∨ x ∈ l → 0 ≤ x) → ∀ (H' : Hp) (p q : Addr) (h' l' : List Int), Same H H' → H' p = some (.tup [.str "lasso", .ref q]) → Las H' q h' l' → Short h l h' l' → Q (.ref p) H')
theorem neg_cases (h l : List Int) : (∃ x, (x ∈ h ∨ x ∈ l) ∧ x < 0) ∨ ∀ x, x ∈ h ∨ x ∈ l → 0 ≤ x := by
  by_cases c : ∃ x, (x ∈ h ∨ x ∈ l) ∧ x < 0
  · exact .inl c
  · exact .inr fun x hx => by
      rcases Int.lt_or_le x 0 with z | z
      · exact absurd ⟨x, hx, z⟩ c
      · exact z
def spIsInt : Sp := fun vs H Q _ => ∃ (i : Int), vs = [.int i] ∧ Q (.bl true) H
end Bx
/-! ### own errors, two levels below ValueError -/
namespace Bx
open PySem PySem.Spec PyProof.Rows L2
abbrev veB : List Value := [.type "ValueError", .type "Exception", .type "BaseException", .type "object"]
structure ErrC (K : PySem.W.Frag) (mg : Str → Option Value) (x : Str) (C : Addr) : Prop where
  g : mg x = some (.ref C)
  ex : PySem.W.excIn K C veB "ValueError.__new__" = true
  kp : PySem.W.keepIn K (.ref C) = true
  ty : PySem.W.typeIn K (.ref C) = some (.type "type")
  sf : PySem.W.subIn K (.ref C) (.ref C) = some true
  ec : ExcC K C
theorem ErrC.exm {K : PySem.W.Frag} {mg : Str → Option Value} {x : Str} {C : Addr} {cls : Value} {b : Bool} (e : ErrC K mg x C) (h : PySem.W.subIn K cls (.ref C) = some b) : PySem.W.exmOne K cls (.ref C) = some b := PySem.W.exm_ref e.ec.hs e.ec.hd e.ty h
theorem ErrC.me {K : PySem.W.Frag} {mg : Str → Option Value} {x : Str} {C : Addr} (e : ErrC K mg x C) : PySem.W.exmOne K (.ref C) (.ref C) = some true := e.exm e.sf
/-- raise X('..') -/
theorem ErrC.made {X : Cx} {C : Addr} {x m : Str} {j : Nat} {p p2 pos : Pos} (e : ErrC X.K X.mg x C) (hg : Gl X x) (hd : (x == ("__debug__" : Str)) = false := by decide) : PMk X (.Call (.Name x p) [.Constant (.str m) j p2] [] pos) (fun _ H Q => Q (.ref C) none H) :=
  pmk_own PySem.F.excBase_ValueError e.ex e.g e.kp (raises_own e.ec.hs e.ty) hg hd
/-- isinstance(e, c), e the exception that the suite holds -/
def rIsEx (K : PySem.W.Frag) (a : Addr) (cls : Value) (d : Option Addr) : List V → Hp → VK → Prop := fun xs H Q => ∃ D : Addr, cls = .ref D ∧ d = none ∧ ExcC K D ∧ rIsE K D a xs H Q
theorem call_isEx {X : Cx} {K : PySem.W.Frag} {a : Addr} {cls : Value} {d : Option Addr} {oe : Obj} {pn : List (Addr × Obj)} (h : X.K = K) (hz : Zc cls d oe) (hf : ∃ vs, oe.data = .fields vs) : CallR (X.suite a ((a, oe) :: pn)) (.builtin "isinstance") (rIsEx K a cls d) := by
  subst h
  intro pins s σ H xs us Q I r hw
  obtain ⟨D, rfl, rfl, C, hw⟩ := hw
  exact call_isE C hz hf pins s σ H xs us Q I r hw
/-- a def that may raise, by its name -/
structure CalX (P : Program) (w : World) (K : PySem.W.Frag) (mg : Str → Option Value) (base : Heap) (k : Nat) (x : Str) (sp : Sp) : Prop where
  ex : ∃ (f : Addr) (fd : FuncData) (ps : List Str), FnOk P w K mg base (L2.CX P w) k f fd ps sp ∧ mg x = some (.ref f) ∧ PySem.W.keepIn K (.ref f) = true ∧ Binds K fd ps []
theorem pe_cx {X : Cx} {k j : Nat} {x : Str} {sp : Sp} {W : WX} {p pos : Pos} {e : Expr} {es : List Expr} {t : TA} (c : CalX X.prog X.w X.K X.mg X.base k x sp) (hr : Room j X.A) (hk : k ≤ j) (tk : Takes X W) (hg : Gl X x) (ha : PA X (e :: es) t)
    (hdb : (x == ("__debug__" : Str)) = false := by decide) (he : starEach (e :: es) X.env = (false, eval e X.env) :: starEach es X.env := by rfl) (hpl : (backTo pos (starEach es X.env)).any (·.1) = false := by rfl) :
    PE X (.Call (.Name x p) (e :: es) [] pos) (tCallS sp (WE W) t) := by
  obtain ⟨f, fd, ps, F, hm, kp, b⟩ := c.ex
  exact pe_callS F (hr.mono hk) hg hm kp b (fun σ => passAt tk σ) ha hdb he hpl
end Bx
/-! ### several clauses, each with its name: own rule -/
namespace Bx
open PySem PySem.Spec PyProof.Rows L2
/-- what the clauses wish, one after the other: (class, the name's slot, the suite's reading) -/
def wAll (K : PySem.W.Frag) (Wo : WX) (D : Ends) : List (Value × Nat × (Addr → Value → Option Addr → TS)) → WX
  | [] => Wo
  | (c, i, ts) :: r => fun cls d σ H => ∃ b, PySem.W.exmOne K cls c = some b ∧
    (b = true → ∀ a, H a = none → ts a cls d { nx := fun σ' H' => D.nx (σ'.set i none) H', rt := D.rt, bk := fun σ' H' => D.bk (σ'.set i none) H', ct := fun σ' H' => D.ct (σ'.set i none) H' } (σ.set i (some (.ref a))) H) ∧
    (b = false → wAll K Wo D r cls d σ H)
inductive Clauses (Y : Cx) : List ExceptHandler → List (Value × Nat × (Addr → Value → Option Addr → TS)) → Prop
  | nil : Clauses Y [] []
  | cons {x n : Str} {c : Value} {i : Nat} {ts : Addr → Value → Option Addr → TS} {b0 : Stmt} {suite : List Stmt} {p p' : Pos} {cs : List ExceptHandler} {l : List (Value × Nat × (Addr → Value → Option Addr → TS))}
      (hc : Names Y x c) (hi : Y.N[i]? = some n) (hl : Y.env.kindOf n = some .local)
      (su : ∀ (a : Addr) (oe : Obj) (cls : Value) (d : Option Addr) (pn : List (Addr × Obj)), Zc cls d oe → (∃ vs, oe.data = .fields vs) → PSs (Y.suite a ((a, oe) :: pn)) (b0 :: suite) (ts a cls d)) (r : Clauses Y cs l) :
      Clauses Y (.ExceptHandler (some (.Name x p)) (some n) (b0 :: suite) p' :: cs) ((c, i, ts) :: l)
theorem ps_try_all {Y : Cx} {body : List Stmt} {c0 : ExceptHandler} {cs : List ExceptHandler} {l : List (Value × Nat × (Addr → Value → Option Addr → TS))} {pos : Pos} {tb : WX → TS} {Wo : WX}
    (ks : Y.stack = Y.env :: Y.outer) (kf : Y.env.frame = some Y.env.locals) (kN : Y.N.Nodup) (tk : Takes Y Wo)
    (kb : ∀ (W : WX) (pn : List (Addr × Obj)) (xe : Value → Shared → Prop), Takes (Y.tr pn xe) W → PassesOwn (model Y.prog Y.w) Y.A Y.env xe → PSs (Y.tr pn xe) body (tb W))
    (kh : Clauses Y (c0 :: cs) l) : PS Y (.Try body (c0 :: cs) [] [] pos) (fun D σ H => tb (wAll Y.K Wo D l) D σ H) := by
  refine ⟨fun pins u σ H D I hw => ?_⟩
  have okY := I.ok
  have fr := okY.frames
  rw [ks] at fr
  refine wpAny_Try_except ?_
  refine wpAny_mono ((kb (wAll Y.K Wo D l) (Y.pn ++ pins) (fun e u1 => wpAny (model Y.prog Y.w) Y.A (noteFrame e Y.env) (fun _ u2 => wpAny (model Y.prog Y.w) Y.A (setFlight e none) (fun _ u3 =>
    wpAny (model Y.prog Y.w) Y.A (handleBy e Y.env (c0 :: cs)) (SP Y pins D) Y.xe u3) Y.xe u2) Y.xe u1) (fun v g xx => ?_) PassesOwn.looking).run [] u σ H D (I.toTry _) hw) (fun f u1 q => ?_) (fun e u1 q => q)
  · obtain ⟨a, B, sI, pins1, σ1, H1, cls, d, rfl, Jt, nb, up, sk, na, os, ag, w⟩ := xx
    have J : Inv Y pins σ1 H1 sI := Jt.ofTry okY
    have sk1 : Sky B (Y.env :: Y.outer) a (Zc cls d) Y.env.locals g.heap := by rw [← ks]; exact sk
    show wpAny (model Y.prog Y.w) Y.A (noteFrame (.ref a) Y.env) _ _ _
    refine Sky.land Zc.steady fr kf sk1 fun g3 f3 u3 => ?_
    have I3 : Inv Y pins σ1 H1 { g with heap := g3 } := J.landed nb f3.1 (up.trans u3) os ag
    obtain ⟨o3, w3, at3, z3, dt3⟩ := f3.there
    have apart : ∀ {t : Heap} {o : Obj} {vs : Array Value}, t.FunFrames B (Y.env :: Y.outer) → t.get? a = some o → o.data = .fields vs → a ∉ frs (Y.env :: Y.outer) := fun {t o vs} ff e dd hm => by
      obtain ⟨_, o2, e2, q2⟩ := ff.mem hm
      rw [e] at e2
      cases e2
      exact q2 _ dd
    have n0 := apart f3.2.2.1 at3 dt3
    have nL : a ≠ Y.env.locals := fun z => n0 (List.mem_filterMap.mpr ⟨Y.env, List.mem_cons_self, by rw [kf, z]⟩)
    have nF : a ∉ Y.fs := fun hm => by
      obtain ⟨e, he, q⟩ := List.mem_filterMap.mp hm
      exact n0 (List.mem_filterMap.mpr ⟨e, List.mem_cons_of_mem _ he, q⟩)
    have T3 := I3.suite at3 dt3 na nL nF
    have all : ∀ {cs2 : List ExceptHandler} {l2 : List (Value × Nat × (Addr → Value → Option Addr → TS))}, Clauses Y cs2 l2 → wAll Y.K Wo D l2 cls d σ1 H1 →
        wpAny (model Y.prog Y.w) Y.A (handleBy (.ref a) Y.env cs2) (SP Y pins D) Y.xe { g with heap := g3 } := by
      intro cs2 l2 hk
      induction hk with
      | nil =>
        intro w
        refine wpAny_handleBy_nil ?_
        obtain ⟨_, _, _, oe, vs, T, oT, t2, he, hz, hd, h1, _⟩ := id f3
        unfold PySem.passOn
        refine wpAny_bind (wpAny_field he hd h1 ?_)
        rw [if_neg (show ¬ ((Value.ref T == Value.none) = true) from by simp)]
        have away : wpAny (model Y.prog Y.w) Y.A (setFlight (.ref a) Y.env.frame) (fun _ u4 => wpAny (model Y.prog Y.w) Y.A (throw (.ref a) : Sem Flow) (SP Y pins D) Y.xe u4) Y.xe { g with heap := g3 } := by
          rw [kf]
          refine HandSPX.setFlight_upZ f3 fun g4 q4 u4 => wpAny_throw (tk _ _ ?_)
          exact ⟨a, B, sI, pins, σ1, H1, cls, d, rfl, J, nb, (up.trans u3).trans u4, .inr (.inr (by rw [ks]; exact q4)), na, os, ag, w⟩
        first
          | exact wpAny_bind (wpAny_pure (wpAny_bind away))
          | exact wpAny_bind away
      | @cons x n c i ts b0 suite p p' cs3 l3 hc hi hl su r ih =>
        intro w
        obtain ⟨b, e1, yes, no⟩ := w
        refine wpAny_handleBy_cons (codeAny_handlers_test ?_) (by intro q; cases q)
        have LT : PySem.W.Looks (model Y.prog Y.w) g3 (typeOf (.ref a)) cls := fun A Q E s k q => wpAny_typeOf_ref (k _ _ at3) (by rw [z3.1]; exact q)
        have LM := PySem.W.exm_one (M := model Y.prog Y.w) (I3.kIn) LT e1
        have test : ∀ {Q : Value → Shared → Prop} {E : Value → Shared → Prop}, Q c { g with heap := g3 } → wpAny (model Y.prog Y.w) (Y.A.mark (some (.ref a))) (eval (.Name x p) Y.env) Q E { g with heap := g3 } := fun {Q E} q => by
          obtain ⟨hg, hdb, hm | ⟨hm, hv, hnn⟩⟩ := hc
          · exact ld_glob (X := Y.suite a ((a, o3) :: (Y.pn ++ pins))) T3 hg hm q hdb
          · exact ld_blt (X := Y.suite a ((a, o3) :: (Y.pn ++ pins))) T3 hg hm hv q hnn hdb
        refine test (LM.here ?_)
        cases b with
        | true =>
          refine codeAny_handlers_suite_as ?_
          refine HandSPX.lands_againZ f3 fun g4 f4 u4 => ?_
          have I4 : Inv Y pins σ1 H1 { g with heap := g4 } := J.landed nb f4.1 ((up.trans u3).trans u4) os ag
          obtain ⟨o4, w4, at4, z4, dt4⟩ := f4.there
          have T4 := I4.suite at4 dt4 na nL nF
          refine store_ok (X := Y.suite a ((a, o4) :: (Y.pn ++ pins))) (v := .ref a) T4 kN hi (.inl hl) rfl (fun u5 T5 => ?_) (.inr hl)
          refine wpAny_mono ((su a o4 cls d (Y.pn ++ pins) z4 ⟨_, dt4⟩).run [] u5 _ H1 _ T5 (yes rfl a na)) (fun f u6 q => ?_) (fun _ _ z => False.elim z)
          have fin : ∀ {σ6 : L2.St} {H6 : Hp} {Q : Shared → Prop}, Inv (Y.suite a ((a, o4) :: (Y.pn ++ pins))) [] σ6 H6 u6 → (∀ u7, Inv Y pins (σ6.set i none) H6 u7 → Q u7) →
              wpAny (model Y.prog Y.w) Y.A (do bindName Y.env n .none; unbindBehindTheSuite Y.env n p') (fun _ u7 => Q u7) Y.xe u6 := fun {σ6 H6 Q} T6 hq => gone_ok (T6.unsuite okY) kN hi hl hq
          cases f with
          | next =>
            obtain ⟨_, _, T6, q6⟩ := q
            exact fin T6 fun _ I7 => ⟨_, _, I7, q6⟩
          | brk =>
            obtain ⟨_, _, T6, q6⟩ := q
            exact fin T6 fun _ I7 => ⟨_, _, I7, q6⟩
          | cont =>
            obtain ⟨_, _, T6, q6⟩ := q
            exact fin T6 fun _ I7 => ⟨_, _, I7, q6⟩
          | ret v =>
            obtain ⟨_, _, _, T6, r6, q6⟩ := q
            exact fin T6 fun _ I7 => ⟨_, _, _, I7, r6, q6⟩
        | false =>
          show wpAny _ Y.A (handleBy (.ref a) Y.env cs3) _ _ _
          exact ih (no rfl)
    exact all kh w
  · cases f with
    | next =>
      obtain ⟨_, _, J1, q1⟩ := q
      exact wpAny_execs_nil ⟨_, _, J1.ofTry okY, q1⟩
    | brk =>
      obtain ⟨_, _, J1, q1⟩ := q
      exact ⟨_, _, J1.ofTry okY, q1⟩
    | cont =>
      obtain ⟨_, _, J1, q1⟩ := q
      exact ⟨_, _, J1.ofTry okY, q1⟩
    | ret v =>
      obtain ⟨_, _, _, J1, r1, q1⟩ := q
      exact ⟨_, _, _, J1.ofTry okY, r1, q1⟩
end Bx
/-! ### max of a tuple of ints, lcm: own rules -/
namespace MaxT
open PySem PySem.W PyProof.Rows
section
variable {prog : Program} {w : World} {A : Around} {E : Value → Shared → Prop} {s : Shared}
theorem walkT {l : Addr} {xs : Array (Int × Tok)} {Q : Value → Shared → Prop} (hh : A.handled = none) (ht : s.heap.IsTuple l (intItems xs)) (hne : 0 < xs.size)
    (h : ∀ v g tk, (intItems xs)[argBest (fun i j => decide (numAt xs i > numAt xs j)) (xs.size - 1)]? = some v → (∀ b o, s.heap.get? b = some o → g.get? b = some o) → Q v { s with heap := g, toks := tk }) :
    wpAny (model prog w) A (call (.builtin "max") [.ref l]) Q E s := by
  have ll : l < s.heap.objs.size := by
    obtain ⟨_, e, _⟩ := ht
    exact Heap.lt_size e
  refine call_max_walk (wpAny_pyIter_tuple ht ?_)
  refine ⟨_, _, _, _, _, _, _, rfl, Walks.tuple (A := A.in1) hh _ l (Nat.ne_of_lt ll) (intItems xs), ⟨⟨_, Heap.get?_push_size _ rfl, rfl, rfl⟩, ht.push _⟩, fun c hc => ?_, by simpa [intItems] using hne, CmpOf.ints_gt (numAt xs) (fun _ _ => intItems_at), fun v g tk hP hk => ?_⟩
  · show c < (s.heap.push _).objs.size
    rw [Heap.size_push]
    rcases List.mem_cons.mp hc with rfl | hc
    · exact Nat.lt_succ_self _
    · rcases List.mem_cons.mp hc with rfl | hc
      · exact Nat.lt_succ_of_lt ll
      · cases hc
  · refine h v g tk (by simpa [intItems] using hP) fun b o e => hk b o (fun hm => ?_) (Heap.get?_push_of_some _ e)
    have e1 : b = s.heap.objs.size := List.mem_singleton.mp hm
    rw [e1] at e
    exact absurd (Heap.lt_size e) (Nat.lt_irrefl _)
theorem rawT {l : Addr} {its : List Value} {ns : List Int} {Q : Value → Shared → Prop} (hh : A.handled = none) (hl : IsTup s.heap l its.toArray) (hi : IntsAre its ns) (hne : ns ≠ [])
    (h : ∀ (g : Heap) (tk : Nat) (m : Int) (t' : Tok), (∀ b o, s.heap.get? b = some o → g.get? b = some o) → m ∈ ns → (∀ y ∈ ns, y ≤ m) → Q (.int m t') { s with heap := g, toks := tk }) :
    wpAny (model prog w) A (call (.builtin "max") [.ref l]) Q E s := by
  obtain ⟨xs, e⟩ := hi.allInts.items
  have hn : numsOf (intItems xs).toList = ns := by rw [← e]; exact hi.numsOf
  rw [PySem.nums_intItems] at hn
  subst hn
  rw [e] at hl
  have c : 0 < xs.size := by
    rcases Nat.eq_zero_or_pos xs.size with z | z
    · refine absurd ?_ hne
      have : xs = #[] := Array.eq_empty_of_size_eq_zero z
      rw [this]
      rfl
    · exact z
  refine walkT hh hl c fun v g tk p1 keep => ?_
  obtain ⟨u, rfl⟩ := intItems_at p1
  obtain ⟨a1, a2⟩ := argBest_gt (numAt xs) (xs.size - 1)
  refine h g tk _ u keep ?_ fun y hy => ?_
  · rw [PySem.numAt_eq]
    refine PySem.getD_mem ?_
    rw [List.length_map, Array.length_toList]
    exact Nat.lt_of_le_of_lt a1 (by omega)
  · obtain ⟨j, hj, rfl⟩ := PySem.mem_getD hy
    rw [List.length_map, Array.length_toList] at hj
    rw [← PySem.numAt_eq]
    exact a2 j (by omega)
end
end MaxT
namespace Bx
open PySem PySem.Spec PyProof.Rows L2
def rMaxT (K : PySem.W.Frag) : List V → Hp → VK → Prop := fun xs H Q => ∃ (a : Addr) (ns : List Int), xs = [.ref a] ∧ SqT K H a (ns.map V.int) ∧ ns ≠ [] ∧ ∀ m, m ∈ ns → (∀ y ∈ ns, y ≤ m) → Q (.int m) H
theorem call_maxT {X : Cx} {K : PySem.W.Frag} (h : X.K = K) (hc : X.calm = true) : CallR X (.builtin "max") (rMaxT K) := by
  subst h
  intro pins s σ H xs us Q I r hw
  obtain ⟨a, ns, rfl, hs, hne, q⟩ := hw
  obtain ⟨its, rv, ht, _⟩ := I.tuple hs
  rw [Vals.ref1 r]
  exact MaxT.rawT (I.ok.hd hc) ht rv.ints hne fun g tk m t' hk h1 h2 => ⟨.int m, H, I.kept hk, ⟨_, rfl⟩, q m h1 h2⟩
theorem call_maxK {X : Cx} {K : PySem.W.Frag} (h : X.K = K) (hc : X.calm = true) : CallR X (.builtin "max") (rMax K) := by
  subst h
  exact cr_max hc
def spCheckX (cL : Addr) : Sp := fun vs H Q E => ∃ (p : Addr) (h l : List Int) (n : Int), vs = [.ref p, .int n] ∧ Las H p h l ∧ l ≠ [] ∧ h.length ≤ 1000 ∧ l.length ≤ 1000 ∧
  ((∃ x, (x ∈ h ∨ x ∈ l) ∧ n ≤ x) → ∀ H', Same H H' → E (.ref cL) none H') ∧ ((∀ x, x ∈ h ∨ x ∈ l → x < n) → ∀ H', Same H H' → Q .non H')
end Bx
/-! ### lists of lists, instances made in a try: own rules -/
namespace Bx
open PySem PySem.Spec PyProof.Rows L2
section
variable {X : Cx}
theorem pi_or {tg iter : Expr} {w1 w2 : TI} (h1 : PI X tg iter w1) (h2 : PI X tg iter w2) : PI X tg iter (fun σ H R => w1 σ H R ∨ w2 σ H R) := ⟨fun pins s σ H R I h => by
  rcases h with h | h
  · exact h1.run pins s σ H R I h
  · exact h2.run pins s σ H R I h⟩
theorem passF {P : Program} {w : World} : Passes (L2.CX P w) X (fun _ _ _ => False) := fun _ _ _ _ _ _ _ h => by
  obtain ⟨_, _, _, _, _, _, _, _, _, _, _, _, z⟩ := h
  exact z.elim
/-- a new instance of an own class whose __init__ may raise -/
structure MakX (P : Program) (w : World) (K : PySem.W.Frag) (mg : Str → Option Value) (base : Heap) (k : Nat) (x : Str) (C : Addr) (sp : Sp) : Prop where
  ex : ∃ (f : Addr) (fd : FuncData) (ps : List Str), Mk K C f ∧ FnOk P w K mg base (L2.CX P w) k f fd ps sp ∧ mg x = some (.ref C) ∧ Binds K fd ps []
def tMakX (C : Addr) (sp : Sp) (E : L2.St → XK) (t : TA) : TE := fun σ H Q => t σ H fun vs H1 => ∀ x dx, H1 x = none → H1 dx = none → dx ≠ x → sp (.ref x :: vs) (upd (upd H1 dx (.own x)) x (.ins C dx [])) (fun v H2 => v = .non ∧ Q (.ref x) H2) (E σ)
theorem made_at {k : Nat} {f C : Addr} {fd : FuncData} {ps : List Str} {sp : Sp} {E : XK} {pins : List (Addr × Obj)} {σ : L2.St} {H : Hp} {u : Shared} {Q : VK} {us : List Value} {vs : List V} (M : Mk X.K C f) (F : FnOk X.prog X.w X.K X.mg X.base (L2.CX X.prog X.w) k f fd ps sp) (hr : Room (k + 1) X.A) (hb : Binds X.K fd ps [])
    (hx : PassesAt (L2.CX X.prog X.w) X σ E) (I : Inv X pins σ H u) (r : Vals vs us)
    (h : ∀ x dx, H x = none → H dx = none → dx ≠ x → sp (.ref x :: vs) (upd (upd H dx (.own x)) x (.ins C dx [])) (fun v H2 => v = .non ∧ Q (.ref x) H2) E) :
    wpAny (model X.prog X.w) X.A (call (.ref C) us) (EP X pins σ Q) X.xe u := by
  have q0 := h (u.heap.objs.size + 1) u.heap.objs.size (I.hok.fresh (Nat.le_succ _)) (I.hok.fresh (Nat.le_refl _)) (Nat.ne_of_lt (Nat.lt_succ_self _))
  have J := Inv.made (C := C) I
  have r2 : Vals (V.ref (u.heap.objs.size + 1) :: vs) (Value.ref (u.heap.objs.size + 1) :: us) := .cons rfl r
  have hl : (Value.ref (u.heap.objs.size + 1) :: us ++ []).length = ps.length := by
    have e := r2.length
    rw [F.len _ _ _ _ q0] at e
    rw [List.append_nil]
    exact e.symm
  refine wpAny_call (make_map (f := f) I.kIn M.makes M.init (beq_iff_eq.mp M.fn) (codeAny_mono (F.run _ X.stack _ _ ⟨Value.ref (u.heap.objs.size + 1) :: us, []⟩ (Value.ref (u.heap.objs.size + 1) :: us) _ _ E (hr.make C us [])
    (J.env0.make C us []) (by have q := hb _ (Value.ref (u.heap.objs.size + 1) :: us) J.kIn hl; rw [List.append_nil] at q; exact q) r2 q0) fun r u' hq => ?_))
  cases r with
  | error e => exact hx pins _ _ e u' J hq
  | ok fl =>
    cases fl with
    | ret v =>
      obtain ⟨y, G, J3, ry, ey, qy⟩ := J.after hq
      subst ey
      exact ⟨ry, ⟨V.ref (u.heap.objs.size + 1), G, J3, rfl, qy⟩⟩
    | next => exact False.elim hq
    | brk => exact False.elim hq
    | cont => exact False.elim hq
theorem pe_makeX {k j : Nat} {C : Addr} {x : Str} {sp : Sp} {W : WX} {p pos : Pos} {e : Expr} {es : List Expr} {t : TA} (c : MakX X.prog X.w X.K X.mg X.base k x C sp) (hr : Room j X.A) (hk : k + 1 ≤ j) (tk : Takes X W) (hg : Gl X x) (ha : PA X (e :: es) t)
    (hdb : (x == ("__debug__" : Str)) = false := by decide) (he : starEach (e :: es) X.env = (false, eval e X.env) :: starEach es X.env := by rfl) (hpl : (backTo pos (starEach es X.env)).any (·.1) = false := by rfl) :
    PE X (.Call (.Name x p) (e :: es) [] pos) (tMakX C sp (WE W) t) := by
  obtain ⟨f, fd, ps, M, F, hm, b⟩ := c.ex
  refine ⟨fun pins u σ H Q I hw => ?_⟩
  refine wpAny_Call_Name_kw (ld_glob I hg hm ?_ hdb)
  refine PySem.W.callWith_K (h₀ := X.base) I.ok.mod.kin M.kp (thn (ha.run pos pins u σ H _ I hw) fun us u1 ⟨vs, H1, I1, rv, qv⟩ => ⟨I1.kIn, ?_⟩) he hpl
  exact made_at M F (hr.mono hk) b (passAt tk σ) I1 rv qv
theorem pe_makeN {k j : Nat} {C : Addr} {x : Str} {sp : Sp} {p pos : Pos} {e : Expr} {es : List Expr} {t : TA} (c : MakX X.prog X.w X.K X.mg X.base k x C sp) (hr : Room j X.A) (hk : k + 1 ≤ j) (hg : Gl X x) (ha : PA X (e :: es) t)
    (hdb : (x == ("__debug__" : Str)) = false := by decide) (he : starEach (e :: es) X.env = (false, eval e X.env) :: starEach es X.env := by rfl) (hpl : (backTo pos (starEach es X.env)).any (·.1) = false := by rfl) :
    PE X (.Call (.Name x p) (e :: es) [] pos) (tMakX C sp (fun _ => fun _ _ _ => False) t) := by
  obtain ⟨f, fd, ps, M, F, hm, b⟩ := c.ex
  refine ⟨fun pins u σ H Q I hw => ?_⟩
  refine wpAny_Call_Name_kw (ld_glob I hg hm ?_ hdb)
  refine PySem.W.callWith_K (h₀ := X.base) I.ok.mod.kin M.kp (thn (ha.run pos pins u σ H _ I hw) fun us u1 ⟨vs, H1, I1, rv, qv⟩ => ⟨I1.kIn, ?_⟩) he hpl
  exact made_at M F (hr.mono hk) b (fun pins G v e v' J q => passF pins σ G v e v' J q) I1 rv qv
end
/-! rows of ints -/
def RowsA (mk : List V → HO) (H : Hp) : List Addr → List (List Int) → Prop
  | [], [] => True
  | a :: as, r :: rs => H a = some (mk (r.map V.int)) ∧ RowsA mk H as rs
  | _, _ => False
def RowsQ (H : Hp) : List Addr → List (List Int) → Prop
  | [], [] => True
  | a :: as, r :: rs => SeqI H a r ∧ RowsQ H as rs
  | _, _ => False
theorem RowsA.keep {mk : List V → HO} {H H' : Hp} : ∀ {as : List Addr} {rs : List (List Int)}, (∀ b o, b ∈ as → H b = some o → H' b = some o) → RowsA mk H as rs → RowsA mk H' as rs
  | [], [], _, _ => True.intro
  | a :: as, r :: rs, k, h => ⟨k a _ List.mem_cons_self h.1, RowsA.keep (fun b o hb => k b o (List.mem_cons_of_mem _ hb)) h.2⟩
  | [], _ :: _, _, h => h.elim
  | _ :: _, [], _, h => h.elim
theorem RowsA.same {mk : List V → HO} {H H' : Hp} {as : List Addr} {rs : List (List Int)} (k : Same H H') (h : RowsA mk H as rs) : RowsA mk H' as rs := h.keep fun b o _ e => k b o e
theorem RowsA.len {mk : List V → HO} {H : Hp} : ∀ {as : List Addr} {rs : List (List Int)}, RowsA mk H as rs → as.length = rs.length
  | [], [], _ => rfl
  | a :: as, r :: rs, h => congrArg (· + 1) h.2.len
  | [], _ :: _, h => h.elim
  | _ :: _, [], h => h.elim
theorem RowsA.snoc {mk : List V → HO} {H : Hp} {a : Addr} {r : List Int} (ha : H a = some (mk (r.map V.int))) : ∀ {as : List Addr} {rs : List (List Int)}, RowsA mk H as rs → RowsA mk H (as ++ [a]) (rs ++ [r])
  | [], [], _ => ⟨ha, True.intro⟩
  | b :: as, q :: rs, h => ⟨h.1, h.2.snoc ha⟩
  | [], _ :: _, h => h.elim
  | _ :: _, [], h => h.elim
theorem RowsA.get {mk : List V → HO} {H : Hp} : ∀ {as : List Addr} {rs : List (List Int)} {i : Nat} {a : Addr}, RowsA mk H as rs → as[i]? = some a → ∃ r, rs[i]? = some r ∧ H a = some (mk (r.map V.int))
  | [], _, _, _, _, e => by simp at e
  | b :: as, [], _, _, h, _ => h.elim
  | b :: as, q :: rs, 0, a, h, e => by
    have : b = a := Option.some.inj e
    subst this
    exact ⟨q, rfl, h.1⟩
  | b :: as, q :: rs, i + 1, a, h, e => RowsA.get (i := i) h.2 e
theorem RowsA.q1 {H : Hp} : ∀ {as : List Addr} {rs : List (List Int)}, RowsA .lst H as rs → RowsQ H as rs
  | [], [], _ => True.intro
  | a :: as, r :: rs, h => ⟨.inl h.1, h.2.q1⟩
  | [], _ :: _, h => h.elim
  | _ :: _, [], h => h.elim
theorem RowsA.q2 {H : Hp} : ∀ {as : List Addr} {rs : List (List Int)}, RowsA .tup H as rs → RowsQ H as rs
  | [], [], _ => True.intro
  | a :: as, r :: rs, h => ⟨.inr h.1, h.2.q2⟩
  | [], _ :: _, h => h.elim
  | _ :: _, [], h => h.elim
theorem RowsQ.same {H H' : Hp} (k : Same H H') : ∀ {as : List Addr} {rs : List (List Int)}, RowsQ H as rs → RowsQ H' as rs
  | [], [], _ => True.intro
  | a :: as, r :: rs, h => ⟨h.1.same k, h.2.same k⟩
  | [], _ :: _, h => h.elim
  | _ :: _, [], h => h.elim
theorem RowsQ.len {H : Hp} : ∀ {as : List Addr} {rs : List (List Int)}, RowsQ H as rs → as.length = rs.length
  | [], [], _ => rfl
  | a :: as, r :: rs, h => congrArg (· + 1) h.2.len
  | [], _ :: _, h => h.elim
  | _ :: _, [], h => h.elim
theorem RowsQ.get {H : Hp} : ∀ {as : List Addr} {rs : List (List Int)} {i : Nat} {a : Addr}, RowsQ H as rs → as[i]? = some a → ∃ r, rs[i]? = some r ∧ SeqI H a r
  | [], _, _, _, _, e => by simp at e
  | b :: as, [], _, _, h, _ => h.elim
  | b :: as, q :: rs, 0, a, h, e => by
    have : b = a := Option.some.inj e
    subst this
    exact ⟨q, rfl, h.1⟩
  | b :: as, q :: rs, i + 1, a, h, e => RowsQ.get (i := i) h.2 e
/-- a list or a tuple of any values -/
def SeqV (H : Hp) (a : Addr) (xs : List V) : Prop := H a = some (.lst xs) ∨ H a = some (.tup xs)
theorem SeqV.same {H H' : Hp} {a : Addr} {xs : List V} (k : Same H H') (h : SeqV H a xs) : SeqV H' a xs := by
  rcases h with h | h
  · exact .inl (k _ _ h)
  · exact .inr (k _ _ h)
theorem SeqV.sq {K : PySem.W.Frag} {H : Hp} {a : Addr} {xs : List V} (h : SeqV H a xs) : SqL K H a xs ∨ SqT K H a xs := by
  rcases h with h | h
  · exact .inl (.of h)
  · exact .inr (.of h)
def iSeq (K : PySem.W.Frag) (te : TE) : TI := fun σ H R => iList K te σ H R ∨ iTup K te σ H R
theorem pi_listK {X : Cx} {K : PySem.W.Frag} {tg e : Expr} {te : TE} (h : X.K = K) (he : PE X e te) : PI X tg e (iList K te) := by
  subst h
  exact pi_list he
theorem pi_tupK {X : Cx} {K : PySem.W.Frag} {tg e : Expr} {te : TE} (h : X.K = K) (he : PE X e te) : PI X tg e (iTup K te) := by
  subst h
  exact pi_tup he
theorem pi_seq {X : Cx} {K : PySem.W.Frag} {tg e : Expr} {te : TE} (h : X.K = K) (he : PE X e te) : PI X tg e (iSeq K te) := by
  subst h
  exact pi_or (pi_list he) (pi_tup he)
theorem for_seq {K : PySem.W.Frag} {i : Nat} {a : Addr} {xs : List V} {g : TG} {tb : TS} {D : Ends} {σ : L2.St} {H : Hp} (hv : σ[i]? = some (some (.ref a))) (hq : SeqV H a xs) (Pv : Nat → L2.St → Hp → Prop) (h0 : Pv 0 σ H) (hS : ∀ i σ' H', Pv i σ' H' → Same H H')
    (hs : ∀ i x σ H, xs[i]? = some x → Pv i σ H → g x σ H fun σ2 H2 => tb { D with nx := Pv (i + 1), ct := Pv (i + 1), bk := D.nx } σ2 H2) (hd : ∀ σ H, Pv xs.length σ H → D.nx σ H) : tFor (iSeq K (tVar i)) g tb D σ H := by
  rcases hq with h | h
  · exact .inl ⟨_, hv, a, rfl, ⟨_, .of h⟩, for_list Pv h0 (fun i σ' H' _ p => .of (hS i σ' H' p _ _ h)) hs hd⟩
  · exact .inr ⟨_, hv, a, rfl, ⟨_, .of h⟩, for_tup Pv h0 (fun i σ' H' _ p => .of (hS i σ' H' p _ _ h)) hs hd⟩
/-- a list of lists of ints -/
def LL (H : Hp) (r : Addr) (as : List Addr) (rows : List (List Int)) : Prop := H r = some (.lst (as.map V.ref)) ∧ RowsA .lst H as rows
def Vld (L s : Int) (ps : List Int) (rows : List (List Int)) : Prop := 1 ≤ L ∧ rows ≠ [] ∧ ps.length = rows.length ∧ (0 ≤ s ∧ s < (rows.length : Int)) ∧ (∀ r ∈ rows, (r.length : Int) = L ∧ ∀ x ∈ r, 0 ≤ x ∧ x < (rows.length : Int)) ∧ ∀ p ∈ ps, 0 ≤ p
/-- the fields of a parity automaton, as they are stored -/
def pf (L s : Int) (pt rt : Addr) : List (Str × V) := putF "rows" (.ref rt) (putF "priorities" (.ref pt) (putF "start" (.int s) (putF "letters" (.int L) [])))
theorem putF_len (f : Str) (v : V) : ∀ fs : List (Str × V), (putF f v fs).length ≤ fs.length + 1
  | [] => Nat.le_refl _
  | (g, x) :: r => by
    unfold putF
    by_cases c : g = f
    · rw [if_pos c]
      exact Nat.le_succ _
    · rw [if_neg c]
      exact Nat.succ_le_succ (putF_len f v r)
theorem pf_L (L s : Int) (pt rt : Addr) : (pf L s pt rt).lookup ("letters" : Str) = some (.int L) := by
  unfold pf
  rw [lookup_putF, if_neg (by decide +kernel), lookup_putF, if_neg (by decide +kernel), lookup_putF, if_neg (by decide +kernel), lookup_putF, if_pos rfl]
theorem pf_s (L s : Int) (pt rt : Addr) : (pf L s pt rt).lookup ("start" : Str) = some (.int s) := by
  unfold pf
  rw [lookup_putF, if_neg (by decide +kernel), lookup_putF, if_neg (by decide +kernel), lookup_putF, if_pos rfl]
theorem pf_p (L s : Int) (pt rt : Addr) : (pf L s pt rt).lookup ("priorities" : Str) = some (.ref pt) := by
  unfold pf
  rw [lookup_putF, if_neg (by decide +kernel), lookup_putF, if_pos rfl]
theorem pf_r (L s : Int) (pt rt : Addr) : (pf L s pt rt).lookup ("rows" : Str) = some (.ref rt) := by
  unfold pf
  rw [lookup_putF, if_pos rfl]
/-- a parity automaton at x -/
def ParAt (C : Addr) (H : Hp) (x : Addr) (L s : Int) (ps : List Int) (rows : List (List Int)) : Prop := ∃ (dx pt rt : Addr) (as : List Addr), H x = some (.ins C dx (pf L s pt rt)) ∧ TupI H pt ps ∧ H rt = some (.tup (as.map V.ref)) ∧ RowsA .tup H as rows
theorem ParAt.same {C : Addr} {H H' : Hp} {x : Addr} {L s : Int} {ps : List Int} {rows : List (List Int)} (k : Same H H') (h : ParAt C H x L s ps rows) : ParAt C H' x L s ps rows := by
  obtain ⟨dx, pt, rt, as, e1, e2, e3, e4⟩ := h
  exact ⟨dx, pt, rt, as, k _ _ e1, k _ _ e2, k _ _ e3, e4.same k⟩
/-- what the class has -/
structure ParC (K : PySem.W.Frag) (C : Addr) : Prop where
  cl : Cls K C
  nL : NoAttr K C "letters"
  nS : NoAttr K C "start"
  nP : NoAttr K C "priorities"
  nR : NoAttr K C "rows"
def spCheckS (cI : Addr) : Sp := fun vs H Q E => ∃ (z n : Int), vs = [.int z, .int n] ∧ (¬ (0 ≤ z ∧ z < n) → E (.ref cI) none H) ∧ ((0 ≤ z ∧ z < n) → Q .non H)
def spInitP (C cI : Addr) : Sp := fun vs H Q E => ∃ (x p r dx : Addr) (L s : Int) (ps : List Int) (as : List Addr) (rows : List (List Int)), vs = [.ref x, .int L, .int s, .ref p, .ref r] ∧ H x = some (.ins C dx []) ∧ H p = some (.lst (ps.map V.int)) ∧ SeqV H r (as.map V.ref) ∧ RowsQ H as rows ∧
  rows.length ≤ 1000 ∧ ps.length ≤ 1000 ∧ (∀ q ∈ rows, q.length ≤ 1000) ∧ (¬ Vld L s ps rows → E (.ref cI) none H) ∧ (Vld L s ps rows → ∀ H', Kp x H H' → ParAt C H' x L s ps rows → Q .non H')
end Bx
namespace Bx
open PySem PySem.Spec PyProof.Rows L2
theorem lc_seq {K : PySem.W.Frag} {i : Nat} {a : Addr} {xs : List V} {g : TG} {tt : TT} {te : TE} {vs : List Nat} {σ : L2.St} {H : Hp} {Q : VK} (hv : σ[i]? = some (some (.ref a))) (hq : SeqV H a xs) (Pv : Addr → Nat → Hp → Prop) (h0 : ∀ D, H D = none → Pv D 0 (upd H D (.lst [])))
    (hS : ∀ D j H', H D = none → Pv D j H' → Same H H')
    (hs : ∀ D, H D = none → ∀ i x H', xs[i]? = some x → Pv D i H' → g x (wipe σ vs) H' fun σ2 H2 => wipe σ2 vs = wipe σ vs ∧ tt σ2 H2 fun b H3 => if b = true then te σ2 H3 fun y H4 => ∃ acc, H4 D = some (.lst acc) ∧ acc.length < sizeLine ∧ Pv D (i + 1) (upd H4 D (.lst (acc ++ [y]))) else Pv D (i + 1) H3)
    (hd : ∀ D H', H D = none → Pv D xs.length H' → Q (.ref D) H') : tLc (iSeq K (tVar i)) g tt te vs σ H Q := by
  rcases hq with h | h
  · exact .inl ⟨_, hv, a, rfl, ⟨_, .of h⟩, fun D hD => lc_list (Pv D) (h0 D hD) (fun i H' _ p => .of (hS D i H' hD p _ _ h)) (hs D hD) (fun H' p => hd D H' hD p)⟩
  · exact .inr ⟨_, hv, a, rfl, ⟨_, .of h⟩, fun D hD => lc_tup (Pv D) (h0 D hD) (fun i H' _ p => .of (hS D i H' hD p _ _ h)) (hs D hD) (fun H' p => hd D H' hD p)⟩
theorem rowsUpd {H : Hp} {x : Addr} {o : HO} (hx : ∀ ys, H x ≠ some (.tup ys)) : ∀ {as : List Addr} {rs : List (List Int)}, RowsA .tup H as rs → RowsA .tup (upd H x o) as rs
  | [], [], _ => True.intro
  | a :: as, r :: rs, h => ⟨by
      have h1 := h.1
      rw [upd_ne (fun z => by rw [z] at h1; exact hx _ h1)]
      exact h1, rowsUpd hx h.2⟩
  | [], _ :: _, h => h.elim
  | _ :: _, [], h => h.elim
theorem refs_get {as : List Addr} {i : Nat} {v : V} (h : (as.map V.ref)[i]? = some v) : ∃ a, as[i]? = some a ∧ v = .ref a := by
  rw [List.getElem?_map] at h
  cases e : as[i]? with
  | none => rw [e] at h; cases h
  | some z => rw [e] at h; exact ⟨z, rfl, (Option.some.inj h).symm⟩
theorem ints_get {xs : List Int} {i : Nat} {v : V} (h : (xs.map V.int)[i]? = some v) : ∃ x, xs[i]? = some x ∧ v = .int x := by
  rw [List.getElem?_map] at h
  cases e : xs[i]? with
  | none => rw [e] at h; cases h
  | some z => rw [e] at h; exact ⟨z, rfl, (Option.some.inj h).symm⟩
theorem take_get {α : Type} {xs : List α} {i : Nat} {x : α} (h : xs[i]? = some x) : xs.take (i + 1) = xs.take i ++ [x] := by
  rw [List.take_add_one, h]
  rfl
theorem pl_next {f : Str} {v : V} {fs : List (Str × V)} {n : Nat} (h : fs.length ≤ n) : (putF f v fs).length ≤ n + 1 := Nat.le_trans (putF_len f v fs) (Nat.succ_le_succ h)
theorem pl_lt {fs : List (Str × V)} {n : Nat} (h : fs.length ≤ n) (k : n < 1000) : fs.length < 1000 := Nat.lt_of_le_of_lt h k
theorem pl_0 : ([] : List (Str × V)).length ≤ 0 := Nat.le_refl _
theorem fld_def {Kf : PySem.W.Frag} {ta tv : TE} {f : Str} {D : Ends} {σ : L2.St} {H : Hp} (h : tv σ H fun y H1 => ta σ H1 fun x H2 => ∃ a C dx fs, x = .ref a ∧ H2 a = some (.ins C dx fs) ∧ Cls Kf C ∧ NoAttr Kf C f ∧ fs.length < 1000 ∧ D.nx σ (upd H2 a (.ins C dx (putF f y fs)))) : sFld Kf ta tv f D σ H := h
theorem cb1_def {r : List V → Hp → VK → Prop} {te : TE} {σ : L2.St} {H : Hp} {Q : VK} (h : te σ H fun v H1 => r [v] H1 Q) : tCB r (tCons te tNil) σ H Q := h
theorem rows_some {mk : List V → HO} {H : Hp} : ∀ {as : List Addr} {rs : List (List Int)} {a : Addr}, RowsA mk H as rs → a ∈ as → ∃ o, H a = some o
  | [], _, _, _, h => by simp at h
  | b :: as, [], _, h, _ => h.elim
  | b :: as, r :: rs, a, h, m => by
    rcases List.mem_cons.mp m with z | z
    · rw [z]
      exact ⟨_, h.1⟩
    · exact rows_some h.2 z
theorem LL.same {H H' : Hp} {r : Addr} {as : List Addr} {rows : List (List Int)} (k : Same H H') (h : LL H r as rows) : LL H' r as rows := ⟨k _ _ h.1, h.2.same k⟩
def exS (d : Scope) : Expr → Scope
  | .ListComp _ _ s _ => s
  | .Call _ (.ListComp _ _ s _ :: _) _ _ => s
  | _ => d
def stS (d : Scope) (i : Nat) (b : List Stmt) : Scope := match b[i]? with
  | some (.Return (some e) _) => exS d e
  | some (.Assign _ e _) => exS d e
  | _ => d
/-- ascending numbers below n -/
def Asc (n : Int) (xs : List Int) : Prop := xs.Pairwise (· < ·) ∧ ∀ x ∈ xs, 0 ≤ x ∧ x < n
/-- rows of rows of ints -/
def CubB (mk : List V → HO) (H : Hp) : List Addr → List (List Addr) → List (List (List Int)) → Prop
  | [], [], [] => True
  | a :: as, bs :: bss, r :: rs => (H a = some (mk (bs.map V.ref)) ∧ RowsA mk H bs r) ∧ CubB mk H as bss rs
  | _, _, _ => False
theorem cub_keep {mk : List V → HO} {H H' : Hp} : ∀ {as : List Addr} {bss : List (List Addr)} {c : List (List (List Int))}, (∀ b o, (b ∈ as ∨ ∃ bs ∈ bss, b ∈ bs) → H b = some o → H' b = some o) → CubB mk H as bss c → CubB mk H' as bss c
  | [], [], [], _, _ => True.intro
  | a :: as, bs :: bss, r :: rs, k, h => ⟨⟨k a _ (.inl List.mem_cons_self) h.1.1, h.1.2.keep fun b o hb => k b o (.inr ⟨bs, List.mem_cons_self, hb⟩)⟩, cub_keep (fun b o hb => k b o (by
      rcases hb with z | ⟨q, z, y⟩
      · exact .inl (List.mem_cons_of_mem _ z)
      · exact .inr ⟨q, List.mem_cons_of_mem _ z, y⟩)) h.2⟩
  | [], [], _ :: _, _, h => h.elim
  | [], _ :: _, _, _, h => h.elim
  | _ :: _, [], _, _, h => h.elim
  | _ :: _, _ :: _, [], _, h => h.elim
theorem cub_same {mk : List V → HO} {H H' : Hp} {as : List Addr} {bss : List (List Addr)} {c : List (List (List Int))} (s : Same H H') (h : CubB mk H as bss c) : CubB mk H' as bss c := cub_keep (fun b o _ e => s b o e) h
theorem cub_len {mk : List V → HO} {H : Hp} : ∀ {as : List Addr} {bss : List (List Addr)} {c : List (List (List Int))}, CubB mk H as bss c → as.length = c.length ∧ bss.length = c.length
  | [], [], [], _ => ⟨rfl, rfl⟩
  | a :: as, bs :: bss, r :: rs, h => ⟨congrArg (· + 1) (cub_len h.2).1, congrArg (· + 1) (cub_len h.2).2⟩
  | [], [], _ :: _, h => h.elim
  | [], _ :: _, _, h => h.elim
  | _ :: _, [], _, h => h.elim
  | _ :: _, _ :: _, [], h => h.elim
theorem cub_snoc {mk : List V → HO} {H : Hp} {a : Addr} {bs : List Addr} {r : List (List Int)} (h1 : H a = some (mk (bs.map V.ref))) (h2 : RowsA mk H bs r) : ∀ {as : List Addr} {bss : List (List Addr)} {c : List (List (List Int))}, CubB mk H as bss c → CubB mk H (as ++ [a]) (bss ++ [bs]) (c ++ [r])
  | [], [], [], _ => ⟨⟨h1, h2⟩, True.intro⟩
  | b :: as, cs :: bss, q :: rs, h => ⟨h.1, cub_snoc h1 h2 h.2⟩
  | [], [], _ :: _, h => h.elim
  | [], _ :: _, _, h => h.elim
  | _ :: _, [], _, h => h.elim
  | _ :: _, _ :: _, [], h => h.elim
theorem cub_get {mk : List V → HO} {H : Hp} : ∀ {as : List Addr} {bss : List (List Addr)} {c : List (List (List Int))} {i : Nat} {a : Addr}, CubB mk H as bss c → as[i]? = some a → ∃ bs r, bss[i]? = some bs ∧ c[i]? = some r ∧ H a = some (mk (bs.map V.ref)) ∧ RowsA mk H bs r
  | [], _, _, _, _, _, e => by simp at e
  | a :: as, bs :: bss, r :: rs, 0, b, h, e => by
    have : a = b := Option.some.inj e
    subst this
    exact ⟨bs, r, rfl, rfl, h.1.1, h.1.2⟩
  | a :: as, bs :: bss, r :: rs, i + 1, b, h, e => cub_get (i := i) h.2 e
  | _ :: _, [], _, _, _, h, _ => h.elim
  | _ :: _, _ :: _, [], _, _, h, _ => h.elim
theorem cub_some {mk : List V → HO} {H : Hp} : ∀ {as : List Addr} {bss : List (List Addr)} {c : List (List (List Int))} {b : Addr}, CubB mk H as bss c → (b ∈ as ∨ ∃ bs ∈ bss, b ∈ bs) → ∃ o, H b = some o
  | [], [], _, _, _, h => by
    rcases h with h | ⟨_, h, _⟩
    · simp at h
    · simp at h
  | a :: as, bs :: bss, r :: rs, b, h, m => by
    rcases m with m | ⟨q, m, y⟩
    · rcases List.mem_cons.mp m with z | z
      · rw [z]; exact ⟨_, h.1.1⟩
      · exact cub_some h.2 (.inl z)
    · rcases List.mem_cons.mp m with z | z
      · rw [z] at y; exact rows_some h.1.2 y
      · exact cub_some h.2 (.inr ⟨q, z, y⟩)
  | [], _ :: _, _, _, h, _ => h.elim
  | _ :: _, [], _, _, h, _ => h.elim
  | _ :: _, _ :: _, [], _, h, _ => h.elim
/-- an object that is not one of the rows may change -/
theorem cub_tup {H : Hp} {x : Addr} {o : HO} (hx : ∀ ys, H x ≠ some (.tup ys)) : ∀ {as : List Addr} {bss : List (List Addr)} {c : List (List (List Int))}, CubB .tup H as bss c → CubB .tup (upd H x o) as bss c
  | [], [], [], _ => True.intro
  | a :: as, bs :: bss, r :: rs, h => ⟨⟨by
      have h1 := h.1.1
      rw [upd_ne (fun z => by rw [z] at h1; exact hx _ h1)]
      exact h1, rowsUpd hx h.1.2⟩, cub_tup hx h.2⟩
  | [], [], _ :: _, h => h.elim
  | [], _ :: _, _, h => h.elim
  | _ :: _, [], _, h => h.elim
  | _ :: _, _ :: _, [], h => h.elim
theorem rows_kp {mk : List V → HO} {H H' : Hp} {x : Addr} (hx : ∀ ys, H x ≠ some (mk ys)) (k : Kp x H H') : ∀ {as : List Addr} {rs : List (List Int)}, RowsA mk H as rs → RowsA mk H' as rs
  | [], [], _ => True.intro
  | a :: as, r :: rs, h => ⟨k _ _ (fun z => by have h1 := h.1; rw [z] at h1; exact hx _ h1) h.1, rows_kp hx k h.2⟩
  | [], _ :: _, h => h.elim
  | _ :: _, [], h => h.elim
theorem cub_kp {mk : List V → HO} {H H' : Hp} {x : Addr} (hx : ∀ ys, H x ≠ some (mk ys)) (k : Kp x H H') : ∀ {as : List Addr} {bss : List (List Addr)} {c : List (List (List Int))}, CubB mk H as bss c → CubB mk H' as bss c
  | [], [], [], _ => True.intro
  | a :: as, bs :: bss, r :: rs, h => ⟨⟨k _ _ (fun z => by have h1 := h.1.1; rw [z] at h1; exact hx _ h1) h.1.1, rows_kp hx k h.1.2⟩, cub_kp hx k h.2⟩
  | [], [], _ :: _, h => h.elim
  | [], _ :: _, _, h => h.elim
  | _ :: _, [], _, h => h.elim
  | _ :: _, _ :: _, [], h => h.elim
def bf (L : Int) (it at_ rt : Addr) : List (Str × V) := putF "rows" (.ref rt) (putF "accepting" (.ref at_) (putF "initial" (.ref it) (putF "letters" (.int L) [])))
theorem bf_L (L : Int) (a b c : Addr) : (bf L a b c).lookup ("letters" : Str) = some (.int L) := by
  unfold bf
  rw [lookup_putF, if_neg (by decide +kernel), lookup_putF, if_neg (by decide +kernel), lookup_putF, if_neg (by decide +kernel), lookup_putF, if_pos rfl]
theorem bf_i (L : Int) (a b c : Addr) : (bf L a b c).lookup ("initial" : Str) = some (.ref a) := by
  unfold bf
  rw [lookup_putF, if_neg (by decide +kernel), lookup_putF, if_neg (by decide +kernel), lookup_putF, if_pos rfl]
theorem bf_a (L : Int) (a b c : Addr) : (bf L a b c).lookup ("accepting" : Str) = some (.ref b) := by
  unfold bf
  rw [lookup_putF, if_neg (by decide +kernel), lookup_putF, if_pos rfl]
theorem bf_r (L : Int) (a b c : Addr) : (bf L a b c).lookup ("rows" : Str) = some (.ref c) := by
  unfold bf
  rw [lookup_putF, if_pos rfl]
def AutAt (C : Addr) (H : Hp) (x : Addr) (L : Int) (ini acc : List Int) (c : List (List (List Int))) : Prop := ∃ (dx it at_ rt : Addr) (as : List Addr) (bss : List (List Addr)), H x = some (.ins C dx (bf L it at_ rt)) ∧ TupI H it ini ∧ TupI H at_ acc ∧ H rt = some (.tup (as.map V.ref)) ∧ CubB .tup H as bss c
theorem aut_same {C : Addr} {H H' : Hp} {x : Addr} {L : Int} {ini acc : List Int} {c : List (List (List Int))} (k : Same H H') (h : AutAt C H x L ini acc c) : AutAt C H' x L ini acc c := by
  obtain ⟨dx, it, at_, rt, as, bss, e1, e2, e3, e4, e5⟩ := h
  exact ⟨dx, it, at_, rt, as, bss, k _ _ e1, k _ _ e2, k _ _ e3, k _ _ e4, cub_same k e5⟩
structure AutC (K : PySem.W.Frag) (C : Addr) : Prop where
  cl : Cls K C
  nL : NoAttr K C "letters"
  nI : NoAttr K C "initial"
  nA : NoAttr K C "accepting"
  nR : NoAttr K C "rows"
  c1 : PySem.W.findIn K (.ref C) "__class__" = some (some (.builtin "object.__class__"))
  c2 : PySem.W.specialIn K (.builtin "object.__class__") "__get__" = some (some (.builtin "getset_descriptor.__get__"))
  c3 : PySem.W.takesIn K (.builtin "object.__class__") = some true
  c4 : PySem.W.mroIn K C (.type "object") = some true
  c5 : PySem.W.kitOne K (.ref C) (.ref C) = some true
def VldB (L : Int) (ini acc : List Int) (c : List (List (List Int))) : Prop := 1 ≤ L ∧ c ≠ [] ∧ Asc c.length ini ∧ Asc c.length acc ∧ ∀ r ∈ c, (r.length : Int) = L ∧ ∀ e ∈ r, Asc c.length e
/-- a list of lists of lists -/
def LC (H : Hp) (r : Addr) (as : List Addr) (bss : List (List Addr)) (c : List (List (List Int))) : Prop := H r = some (.lst (as.map V.ref)) ∧ CubB .lst H as bss c
def spChecks (cI : Addr) : Sp := fun vs H Q E => ∃ (a : Addr) (xs : List Int) (n : Int), vs = [.ref a, .int n] ∧ H a = some (.lst (xs.map V.int)) ∧ (¬ Asc n xs → E (.ref cI) none H) ∧ (Asc n xs → Q .non H)
def spInitB (C cI : Addr) : Sp := fun vs H Q E => ∃ (x i a r dx : Addr) (L : Int) (ini acc : List Int) (as : List Addr) (bss : List (List Addr)) (c : List (List (List Int))), vs = [.ref x, .int L, .ref i, .ref a, .ref r] ∧ H x = some (.ins C dx []) ∧ H i = some (.lst (ini.map V.int)) ∧ H a = some (.lst (acc.map V.int)) ∧ LC H r as bss c ∧
  c.length ≤ 1000 ∧ (∀ r ∈ c, r.length ≤ 1000) ∧ (¬ VldB L ini acc c → E (.ref cI) none H) ∧ (VldB L ini acc c → ∀ H', Kp x H H' → AutAt C H' x L ini acc c → Q .non H')
end Bx

/-! ### own rules: a list extended by a tuple; a tuple's slice with a step -/
namespace Tx
open PySem PySem.Spec PyProof.Rows L2
section
variable {prog : Program} {w : World} {A : Around} {E : Value → Shared → Prop} {s : Shared}
set_option maxRecDepth 8000 in
theorem ext_tup (l b : Addr) (xs ys : Array Value) (n m : Nat) (dd : Option Addr) (sl : Array (Option Value)) (h0 : ¬(!xs.isEmpty && Builtin.List.listTooLong (xs.size + ys.size)) = true) (h1 : xs.size ≤ sizeLine) (h2 : xs.size + ys.size ≤ sizeLine + 1) :
    Meets (Builtin.«list.extend» ⟨[.ref l, .ref b], []⟩) (fun _ R s => s.heap.get? l = some { cls := .type "list", data := .seq xs n } ∧ s.heap.get? b = some { cls := .type "tuple", dict := dd, data := .seq ys m, slots := sl } ∧
      R (.ok (.ret Value.none)) { s with heap := s.heap.update l (Obj.mapSeq fun x => x ++ ys), toks := s.toks }) := .of_wp fun prog w A R s h => by
  obtain ⟨hp, g, d, tk, os⟩ := s
  obtain ⟨hl, hb, h⟩ := h
  have q1 := AutoSeq1.idx_int
  have q2 := AutoSeq1.sub_tuple_tuple
  have q3 := AutoSeq1.sub_list_list
  have q4 := AutoSeq1.sub_tuple_list
  have q5 := AutoSeq1.sub_list_tuple
  have hz : (xs ++ ys).size ≤ sizeLine + 1 := by
    rw [Array.size_append]
    exact h2
  wp_walk using (wpAny_updateSeq hl rfl (hz := h1) (_hz' := hz)), AutoSeq1.wpAny_loadPart' hl, AutoSeq1.wpAny_loadPart' hb
  exact ⟨_, rfl, h⟩
end
section
variable {X : Cx} {K : PySem.W.Frag}
def rExtT (K : PySem.W.Frag) : V → List V → Hp → VK → Prop := fun x vs H Q => ∃ l b xs zs, x = .ref l ∧ vs = [.ref b] ∧ H l = some (.lst xs) ∧ SqT K H b zs ∧ xs.length + zs.length ≤ sizeLine ∧ Q .non (upd H l (.lst (xs ++ zs)))
theorem mt_extT (hK : X.K = K) : MtM X "list.extend" (rExtT K) := by
  subst hK
  intro pins s σ H x vs v us Q I rx rv ⟨l, b, xs, zs, ex, ev, hH, hB, hz, q⟩
  subst ex
  subst ev
  cases rx
  obtain ⟨u, rfl, ru⟩ := rv.one
  cases ru
  obtain ⟨z, its, n, r, hl, e⟩ := I.lstM hH
  obtain ⟨its2, r2, ⟨⟨oc, od, ob, os⟩, e2, ec, m, eb⟩, z2⟩ := I.tuple hB
  have hl2 := r2.length
  dsimp only at ec eb
  subst ec
  subst eb
  have hs : its.toArray.size + its2.toArray.size ≤ sizeLine := by
    rw [List.size_toArray, List.size_toArray]
    omega
  refine call_meets F.slot_list_extend ⟨_, e, rfl⟩ F.entry_list_extend (F.args_list_extend_2 _ _) (ext_tup l b its.toArray its2.toArray n m od os (fun c => ?_) (by omega) (by omega)) ⟨e, e2, ?_⟩
  · rw [notLongL hs, Bool.and_false] at c
    cases c
  · refine ⟨.non, _, I.lset (its' := its ++ its2) hH e (by simp) (r.append r2) ?_, rfl, q⟩
    rw [List.length_append]
    omega
/-- the items that a slice with a step picks -/
def pk3 {α : Type} (xs : List α) (lo hi : Option Int) (c : Int) : List α :=
  (List.range (Builtin.Slice.slicePlaces (Builtin.Slice.sliceAdjust lo hi c xs.length).1 (Builtin.Slice.sliceAdjust lo hi c xs.length).2 c)).filterMap fun (k : Nat) => xs[((Builtin.Slice.sliceAdjust lo hi c xs.length).1 + (k : Int) * c).toNat]?
theorem pk3_vals {xs : List V} {us : List Value} (r : Vals xs us) (lo hi : Option Int) (c : Int) : Vals (pk3 xs lo hi c) (pk3 us lo hi c) := by
  unfold pk3
  rw [r.length]
  generalize List.range (Builtin.Slice.slicePlaces (Builtin.Slice.sliceAdjust lo hi c us.length).1 (Builtin.Slice.sliceAdjust lo hi c us.length).2 c) = ks
  generalize (Builtin.Slice.sliceAdjust lo hi c us.length).1 = b
  induction ks with
  | nil => exact .nil
  | cons k ks ih =>
    rw [List.filterMap_cons, List.filterMap_cons]
    cases e : xs[(b + (k : Int) * c).toNat]? with
    | none =>
      have : us[(b + (k : Int) * c).toNat]? = none := by
        rw [List.getElem?_eq_none_iff] at e ⊢
        rw [← r.length]
        exact e
      rw [this]
      exact ih
    | some x =>
      obtain ⟨u, e2, ru⟩ := Vals.get r e
      rw [e2]
      exact .cons ru ih
theorem pk3_len {α : Type} (xs : List α) (lo hi : Option Int) (c : Int) : (pk3 xs lo hi c).length ≤ Builtin.Slice.slicePlaces (Builtin.Slice.sliceAdjust lo hi c xs.length).1 (Builtin.Slice.sliceAdjust lo hi c xs.length).2 c := by
  unfold pk3
  refine Nat.le_trans (List.length_filterMap_le _ _) ?_
  rw [List.length_range]
  exact Nat.le_refl _
end
section
variable {prog : Program} {w : World} {A : Around} {E : Value → Shared → Prop} {s : Shared}
theorem applied3 {sl : Addr} {vl vu vs : Value} {lo hi : Option Int} {c : Int} {n : Nat} {Q : Int × Int × Nat → Shared → Prop} (hs : s.heap.IsSliceOf sl vl vu vs) (pl : IsPart vl lo) (pu : IsPart vu hi) (ps : IsPart vs (some c)) (hc : c ≠ 0)
    (h : Q ((Builtin.Slice.sliceAdjust lo hi c n).1, c, Builtin.Slice.slicePlaces (Builtin.Slice.sliceAdjust lo hi c n).1 (Builtin.Slice.sliceAdjust lo hi c n).2 c) s) :
    wpAny (model prog w) A (Builtin.Slice.sliceApplied (.ref sl) (pure (n : Int))) Q E s := by
  obtain ⟨ob, g1, _, g3⟩ := id hs
  unfold Builtin.Slice.sliceApplied Builtin.Slice.sliceFields
  refine wpAny_bind (wpAny_bind (wpAny_field g1 g3 (x := vl) rfl (wpAny_bind (wpAny_field g1 g3 (x := vu) rfl (wpAny_bind (wpAny_field g1 g3 (x := vs) rfl (wpAny_pure ?_)))))))
  refine wpAny_bind (HT.slicePart_ ps ?_)
  show wpAny _ _ (if (c == 0) = true then _ else _) _ _ s
  rw [if_neg (by simpa using hc)]
  refine wpAny_bind (HT.slicePart_ pl (wpAny_bind (HT.slicePart_ pu (wpAny_bind (wpAny_pure ?_)))))
  show wpAny _ _ (match Builtin.Slice.sliceAdjust lo hi c (n : Int) with | (lo, hi) => pure (lo, c, Builtin.Slice.slicePlaces lo hi c)) _ _ s
  exact wpAny_pure h
theorem item3 {t sl : Addr} {items : List Value} {vl vu vs : Value} {lo hi : Option Int} {c : Int} {Q : Value → Shared → Prop} (ht : IsTup s.heap t items.toArray) (hs : s.heap.IsSliceOf sl vl vu vs) (pl : IsPart vl lo) (pu : IsPart vu hi) (ps : IsPart vs (some c)) (hc : c ≠ 0)
    (h1 : c ≠ 1) (h : Q (.ref s.heap.objs.size) { s with heap := s.heap.push { cls := .type "tuple", data := .seq (pk3 items lo hi c).toArray } }) (hz : (pk3 items lo hi c).length ≤ sizeLine) :
    wpAny (model prog w) A (getItem (.ref t) (.ref sl)) Q E s := by
  have fits : sizeOk (.seq (pk3 items lo hi c).toArray) := by
    show (pk3 items lo hi c).toArray.size ≤ sizeLine
    rw [List.size_toArray]
    exact hz
  have isl : s.TypeIs (.ref sl) "slice" := by
    obtain ⟨ob, g1, g2, _⟩ := id hs
    exact ⟨ob, g1, g2⟩
  unfold getItem
  try with_reducible refine wpAny_holding ?_
  first | refine wpAny_bind (wpAny_pure ?_) | skip
  refine wpAny_bind (wpAny_sequenceKey ht.typeIs (by decide) (wpAny_bind (wpAny_callSpecial?_slot (name := Str.ofString "__getitem__") ht.typeIs slot_tuple_getitem (wpAny_call_entry slot_tuple_getitem ht.typeIs entry_tuple_getitem ?_ (args_tuple_getitem _ _)))))
  show wpAny _ _ (Builtin.Tuple.tupleItemsOf (.ref t) >>= _) _ _ s
  refine wpAny_bind (tupleItemsOf_ ht (wpAny_bind (wpAny_typeOf isl ?_)))
  rw [if_pos (by decide)]
  refine wpAny_bind (applied3 hs pl pu ps hc ?_)
  have no : ¬ (((Builtin.Slice.sliceAdjust lo hi c items.toArray.size).1 == 0 && c == 1 && (Builtin.Slice.slicePlaces (Builtin.Slice.sliceAdjust lo hi c items.toArray.size).1 (Builtin.Slice.sliceAdjust lo hi c items.toArray.size).2 c) == items.toArray.size) = true) := fun q => by
    rw [Bool.and_eq_true, Bool.and_eq_true] at q
    exact h1 (eq_of_beq q.1.2)
  have e : ((List.range (Builtin.Slice.slicePlaces (Builtin.Slice.sliceAdjust lo hi c items.toArray.size).1 (Builtin.Slice.sliceAdjust lo hi c items.toArray.size).2 c)).filterMap fun (k : Nat) => items.toArray[((Builtin.Slice.sliceAdjust lo hi c items.toArray.size).1 + (k : Int) * c).toNat]?) = pk3 items lo hi c := by
    unfold pk3
    rw [List.size_toArray]
    simp only [List.getElem?_toArray]
  show wpAny _ _ (if ((Builtin.Slice.sliceAdjust lo hi c items.toArray.size).1 == 0 && c == 1 && (Builtin.Slice.slicePlaces (Builtin.Slice.sliceAdjust lo hi c items.toArray.size).1 (Builtin.Slice.sliceAdjust lo hi c items.toArray.size).2 c) == items.toArray.size) = true then _ else _) _ _ s
  rw [if_neg no, e]
  first
    | exact wpAny_bind (m := Builtin.Tuple.tupleExact _) (wpAny_newObj_type (wpAny_pure ⟨_, rfl, wpAny_pure h⟩) fits)
    | exact wpAny_bind (m := Builtin.Tuple.tupleExact _) (wpAny_newObj_type (wpAny_bind (wpAny_pure (wpAny_pure ⟨_, rfl, wpAny_pure h⟩))) fits)
    | exact wpAny_bind (wpAny_bind (m := Builtin.Tuple.tupleExact _) (wpAny_newObj_type (wpAny_pure (wpAny_pure ⟨_, rfl, wpAny_pure h⟩)) fits))
    | exact wpAny_bind (wpAny_bind (m := Builtin.Tuple.tupleExact _) (wpAny_newObj_type (wpAny_pure ⟨_, rfl, wpAny_pure h⟩) fits))
end
section
variable {X : Cx} {K : PySem.W.Frag} {e s3 : Expr} {lo hi : Option Expr} {te : TE} {tl th t3 : TO} {p3 pos : Pos}
def tSl3 (K : PySem.W.Frag) (te : TE) (tl th t3 : TO) : TE := fun σ H Q => te σ H fun x H1 => tl σ H1 fun l H2 => th σ H2 fun u H3 => t3 σ H3 fun c H4 => ∃ a xs k, x = .ref a ∧ c = some k ∧ SqT K H4 a xs ∧ k ≠ 0 ∧ k ≠ 1 ∧ (pk3 xs l u k).length ≤ sizeLine ∧
  ∀ p, H4 p = none → Q (.ref p) (upd H4 p (.tup (pk3 xs l u k)))
theorem pe_sl3 (hK : X.K = K) (he : PE X e te) (hl : PO X lo tl) (hu : PO X hi th) (h3 : PO X (some s3) t3) (ho : ∀ a b : Addr, ∃ ops, subscripted (Expr.Slice lo hi (some s3) p3) false (.ref a) (.ref b) = operate ops (getItem (.ref a) (.ref b)) := by exact fun _ _ => ⟨_, rfl⟩) : PE X (.Subscript e (.Slice lo hi (some s3) p3) pos) (tSl3 K te tl th t3) := by
  subst hK
  refine ⟨fun pins s σ H Q I h => Subscript_ (thn (he.run pins s σ H _ I h) fun v s1 ⟨x, H1, I1, r1, q1⟩ => wpAny_Slice (thn (hl.run pins s1 σ H1 _ I1 q1) fun vl s2 ⟨l, H2, I2, pl, q2⟩ => thn (hu.run pins s2 σ H2 _ I2 q2) fun vu s4 ⟨u, H3, I3, pu, q3⟩ =>
    thn (h3.run pins s4 σ H3 _ I3 q3) fun vc s5 ⟨c, H4, I4, pc, q4⟩ => ?_))⟩
  obtain ⟨a, xs, k, ex, ec, hx, k0, k1, hz, q⟩ := q4
  subst ex
  subst ec
  cases r1
  have I5 : Inv X pins σ H4 { s5 with heap := s5.heap.push { cls := .type "slice", data := .fields #[vl, vu, vc] } } := I4.kept (t' := s5.toks) fun b ob q => Heap.get?_push_of_some _ q
  obtain ⟨its, r, ht, _⟩ := I5.tuple hx
  have rv := pk3_vals r l u k
  show wpAny (model X.prog X.w) X.A (subscriptTail e (.Slice lo hi (some s3) p3) (.ref a) (.ref s5.heap.objs.size)) (EP X pins σ Q) X.xe { s5 with heap := s5.heap.push { cls := .type "slice", data := .fields #[vl, vu, vc] } }
  obtain ⟨ops, hops⟩ := ho a s5.heap.objs.size
  refine tail_any (ops := ops) ht.typeIs (slot_tuple_getitem.lookup) ?_ hops
  refine item3 ht (Heap.IsSliceOf.new _ vl vu vc) pl pu pc k0 k1 ?_ (by rw [← rv.length]; exact hz)
  refine ⟨.ref _, _, I5.laid (t' := s5.toks) (o := .tup (pk3 xs l u k)) (fun b ob q => Heap.get?_push_of_some _ q) (Nat.le_refl _) ?_, rfl, q _ (I5.hok.fresh (Nat.le_refl _))⟩
  exact ⟨hz, _, rv, IsTup.new _ _⟩
end
end Tx

/-! ### own rules: set(xs), xs a list of ints; sorted of it -/
namespace Tz
open PySem PySem.Spec PyProof.Rows L2
section
variable {P : Program} {w : World} {A : Around} {E : Value → Shared → Prop} {s : Shared}
/-- the new set, empty -/
abbrev nul (w : World) : Obj := { cls := .type "set", dict := none, data := .set #[] 0 (.fresh 0 0 (!w.params.followText "set-order")) }
/-- what the filling leaves behind -/
def Filled (w : World) (s : Shared) (ns : List Int) (s2 : Shared) : Prop := ∃ h' tk c, s2 = { s with heap := h', toks := tk } ∧ SetR w h' s.heap.objs.size (fun j => decide (j ∈ ns)) c ∧ c ≤ ns.length ∧ ∀ b o, s.heap.get? b = some o → h'.get? b = some o
theorem set_of_list {l : Addr} {items : Array Value} (ns : List Int) {Q : Value → Shared → Prop} (hh : A.handled = none) (hl : s.heap.IsList l items) (hit : IntsAre items.toList ns) (hb : ns.length + 1 < scanBound)
    (h : ∀ s2, Filled w s ns s2 → Q (.ref s.heap.objs.size) s2) : wpAny (model P w) A (call (.type "set") [.ref l]) Q E s := by
  have hisz : items.size = ns.length := by
    have q := IntsAre.length hit
    rwa [Array.length_toList] at q
  have hS : (s.heap.push (nul w)).get? s.heap.objs.size = some (nul w) := Heap.get?_push_size _ rfl
  have hlt : l < s.heap.objs.size := by
    obtain ⟨o, ho, _⟩ := hl
    exact Heap.lt_size ho
  obtain ⟨c, tl, hmro⟩ := F.called_set.mro
  have m1 := F.called_set.made
  have m2 := F.called_set.sub
  refine wpAny_call (codeAny_of_tree ?_)
  show wpAny _ _ (callAny (.type "set") _) _ _ _
  refine wpAny_pure ⟨Code.quiet_builtin _ (by decide +kernel), codeAny_builtin F.entry_type_call ?_⟩
  rw [Around.under_plain (weight_type_call_type "set" [.ref l] []) rfl]
  have m3 := F.called_set.notType
  have m4 := F.called_set.canCreate
  have m5 := F.typeCall_set_1 (.ref l)
  repeat (any_goals (first | assumption | wp_step))
  refine codeAny_mono (code_set_led1 (.ref l) (E := E) (Q₁ := fun obj s1 => obj = .ref s.heap.objs.size ∧ s1 = { s with heap := s.heap.push (nul w) }) ⟨rfl, rfl⟩) fun r s1 hr => ?_
  cases r with
  | error e => exact hr
  | ok fl =>
    cases fl with
    | next => exact hr.elim
    | brk => exact hr.elim
    | cont => exact hr.elim
    | ret obj =>
      obtain ⟨rfl, rfl⟩ := hr
      have hT : Shared.TypeIs { s with heap := s.heap.push (nul w) } (.ref s.heap.objs.size) "set" := ⟨_, hS, rfl⟩
      have m6 := F.called_set.init.lookup
      have m7 := F.called_set.init.bind (.ref s.heap.objs.size)
      repeat (any_goals (first | assumption | wp_step))
      refine codeAny_mono (codeAny_call_builtin (R := wants (fun r s2 => r = .none ∧ Filled w s ns s2) E) F.called_set.init.plain F.entry_set_init (check_set_init_1 hT ?_)) fun r2 s2 hr2 => ?_
      · obtain ⟨ol, hol, hcl, nl, hdl⟩ := hl
        obtain ⟨ocls, odict, odata, oslots⟩ := ol
        simp only at hcl hdl
        subst hcl
        subst hdl
        have hol' := Heap.get?_push_of_some (nul w) hol
        have q1 := F.sub_list_set
        have q2 := F.sub_list_frozenset
        have q3 : (Value.type "list" == Value.type "dict") = false := by decide
        have hl1 : (s.heap.push (nul w)).IsList l items := ⟨_, hol', rfl, nl, rfl⟩
        unfold Builtin.«set.__init__» noKeywords Builtin.Frozenset.updateFrom
        generalize hPI : pyIter = PI
        wp_walk
        subst hPI
        refine wpAny_pyIter_list hl1 ?_
        refine wpAny_bind (wpAny_runValue ?_)
        have hh3 : A.in1.in1.in1.handled = none := by simp [hh]
        have n1 : l ≠ (s.heap.push (nul w)).objs.size := by
          rw [Heap.size_push]
          exact Nat.ne_of_lt (Nat.lt_succ_of_lt hlt)
        have n2 : s.heap.objs.size ∉ [(s.heap.push (nul w)).objs.size, l] := by
          rw [Heap.size_push]
          simp only [List.mem_cons, List.not_mem_nil, or_false, not_or]
          exact ⟨Nat.ne_of_lt (Nat.lt_succ_self _), Nat.ne_of_gt hlt⟩
        have vals : ∀ (i : Nat) (v : Value), items[i]? = some v → ∃ k t, ns[i]? = some k ∧ v = .int k t := fun i v hv => by
          have hi : i < ns.length := by rw [← hisz]; exact (Array.getElem?_eq_some_iff.mp hv).1
          obtain ⟨t, e⟩ := PyProof.Rows.IntsAre.int_at hit i v (by rw [Array.getElem?_toList]; exact hv)
          exact ⟨ns[i], t, List.getElem?_eq_getElem hi, by rw [e, List.getD_eq_getElem?_getD, List.getElem?_eq_getElem hi]; rfl⟩
        refine set_update_ints ((Walks.list hh3 _ l n1 items).toS) s.heap.objs.size n2 ns hisz hb vals (items.size - 0) 0 _ (by omega) (Nat.zero_le _)
          ⟨⟨_, Heap.get?_push_size _ rfl, rfl, rfl⟩, (hl1.push _)⟩ ⟨0, Nat.le_refl 0, setR_new_at (Heap.get?_push_of_some _ hS)⟩ fun s' c' hm hc' hS' => ?_
        obtain ⟨h', g2, d', tk', os'⟩ := s'
        obtain rfl : g2 = s.gens := hm.gens
        obtain rfl : d' = s.drawn := hm.drawn
        obtain rfl : os' = s.os := hm.os
        show wpAny _ _ _ _ _ _
        refine wpAny_pure ?_
        show wpAny _ _ (ret Value.none) _ _ _
        rw [hisz] at hc'
        refine wpAny_pure ⟨rfl, h', tk', c', rfl, hS', hc', fun b o e => ?_⟩
        have b0 : b < s.heap.objs.size := Heap.lt_size e
        refine hm.heap b o ?_ (Heap.get?_push_of_some _ (Heap.get?_push_of_some _ e))
        rw [Heap.size_push]
        simp only [List.mem_cons, List.not_mem_nil, or_false, not_or]
        exact ⟨Nat.ne_of_lt b0, Nat.ne_of_lt (Nat.lt_succ_of_lt b0)⟩
      · cases r2 with
        | error e => exact hr2
        | ok fl2 =>
          cases fl2 with
          | next => exact hr2.elim
          | brk => exact hr2.elim
          | cont => exact hr2.elim
          | ret r =>
            obtain ⟨rfl, hf⟩ := hr2
            have hf2 := hf
            obtain ⟨h', tk, c, rfl, _⟩ := hf2
            repeat (any_goals (first | assumption | wp_step))
            exact h _ hf
end
section
variable {X : Cx} {K : PySem.W.Frag} {w : World}
/-- set(xs), xs a list of ints -/
def rSetLI (K : PySem.W.Frag) (w : World) : List V → Hp → VK → Prop := fun xs H Q => ∃ (l : Addr) (ns : List Int), xs = [V.ref l] ∧ SqL K H l (ns.map V.int) ∧ ns.length + 1 < scanBound ∧
  ∀ p c, H p = none → c ≤ ns.length → Q (.ref p) (upd H p (SetO w p (fun j => decide (j ∈ ns)) c))
theorem cr_setLI (h : X.K = K) (hw : X.w = w) (hc : X.calm = true) : CallR X (.type "set") (rSetLI K w) := by
  subst h
  subst hw
  intro pins s σ H xs us Q I r h
  obtain ⟨l, ns, rfl, hl, hb, q⟩ := h
  rw [Vals.ref1 r]
  obtain ⟨its, rv, pl, hz⟩ := I.list hl
  refine set_of_list (P := X.prog) (w := X.w) ns (I.ok.hd hc) pl.isList rv.ints hb fun s2 hf => ?_
  obtain ⟨h', tk, c, rfl, R, hcl, hk⟩ := hf
  exact ⟨.ref _, upd H s.heap.objs.size (SetO X.w s.heap.objs.size (fun j => decide (j ∈ ns)) c), I.laid (t' := tk) hk (Nat.le_refl _) (setO_new R), rfl, q _ c (I.hok.fresh (Nat.le_refl _)) hcl⟩
theorem cr_sortedSet' (hw : X.w = w) (hc : X.calm = true) : CallR X (.builtin "sorted") (rSortedSet w) := by
  subst hw
  exact cr_sortedSet hc
end
end Tz

namespace Bx
open PySem PySem.Spec PyProof.Rows L2
def mf (I O L : Int) (ot rt : Addr) : List (Str × V) := putF "rows" (.ref rt) (putF "opening" (.ref ot) (putF "lead" (.int L) (putF "outputs" (.int O) (putF "inputs" (.int I) []))))
theorem mf_I (I O L : Int) (a b : Addr) : (mf I O L a b).lookup ("inputs" : Str) = some (.int I) := by
  unfold mf
  rw [lookup_putF, if_neg (by decide +kernel), lookup_putF, if_neg (by decide +kernel), lookup_putF, if_neg (by decide +kernel), lookup_putF, if_neg (by decide +kernel), lookup_putF, if_pos rfl]
theorem mf_O (I O L : Int) (a b : Addr) : (mf I O L a b).lookup ("outputs" : Str) = some (.int O) := by
  unfold mf
  rw [lookup_putF, if_neg (by decide +kernel), lookup_putF, if_neg (by decide +kernel), lookup_putF, if_neg (by decide +kernel), lookup_putF, if_pos rfl]
theorem mf_L (I O L : Int) (a b : Addr) : (mf I O L a b).lookup ("lead" : Str) = some (.int L) := by
  unfold mf
  rw [lookup_putF, if_neg (by decide +kernel), lookup_putF, if_neg (by decide +kernel), lookup_putF, if_pos rfl]
theorem mf_o (I O L : Int) (a b : Addr) : (mf I O L a b).lookup ("opening" : Str) = some (.ref a) := by
  unfold mf
  rw [lookup_putF, if_neg (by decide +kernel), lookup_putF, if_pos rfl]
theorem mf_r (I O L : Int) (a b : Addr) : (mf I O L a b).lookup ("rows" : Str) = some (.ref b) := by
  unfold mf
  rw [lookup_putF, if_pos rfl]
structure MchC (K : PySem.W.Frag) (C : Addr) : Prop where
  cl : Cls K C
  nI : NoAttr K C "inputs"
  nO : NoAttr K C "outputs"
  nL : NoAttr K C "lead"
  no : NoAttr K C "opening"
  nr : NoAttr K C "rows"
/-- rows of pairs -/
structure RP (mk : List V → HO) (H : Hp) (as : List Addr) (c : List (List (Int × Int))) : Prop where
  len : as.length = c.length
  g : ∀ (i : Nat) (a : Addr), as[i]? = some a → ∃ (bs : List Addr) (row : List (Int × Int)), c[i]? = some row ∧ H a = some (mk (bs.map V.ref)) ∧ bs.length = row.length ∧ ∀ (j : Nat) (b : Addr), bs[j]? = some b → ∃ t l, row[j]? = some (t, l) ∧ H b = some (.tup [.int t, .int l])
theorem RP.same {mk : List V → HO} {H H' : Hp} {as : List Addr} {c : List (List (Int × Int))} (s : Same H H') (h : RP mk H as c) : RP mk H' as c := ⟨h.len, fun i a e => by
  obtain ⟨bs, row, h1, h2, h3, h4⟩ := h.g i a e
  exact ⟨bs, row, h1, s _ _ h2, h3, fun j b hb => by obtain ⟨t, l, h5, h6⟩ := h4 j b hb; exact ⟨t, l, h5, s _ _ h6⟩⟩⟩
def LPr (H : Hp) (r : Addr) (as : List Addr) (c : List (List (Int × Int))) : Prop := H r = some (.lst (as.map V.ref)) ∧ RP .lst H as c
theorem LPr.same {H H' : Hp} {r : Addr} {as : List Addr} {c : List (List (Int × Int))} (s : Same H H') (h : LPr H r as c) : LPr H' r as c := ⟨s _ _ h.1, h.2.same s⟩
def MchAt (C : Addr) (H : Hp) (x : Addr) (I O L : Int) (op : List Int) (c : List (List (Int × Int))) : Prop := ∃ (dx ot rt : Addr) (as : List Addr), H x = some (.ins C dx (mf I O L ot rt)) ∧ TupI H ot op ∧ H rt = some (.tup (as.map V.ref)) ∧ RP .tup H as c
theorem mch_same {C : Addr} {H H' : Hp} {x : Addr} {I O L : Int} {op : List Int} {c : List (List (Int × Int))} (s : Same H H') (h : MchAt C H x I O L op c) : MchAt C H' x I O L op c := by
  obtain ⟨dx, ot, rt, as, e1, e2, e3, e4⟩ := h
  exact ⟨dx, ot, rt, as, s _ _ e1, s _ _ e2, s _ _ e3, e4.same s⟩
/-- objects that are no lists stay where only lists change -/
theorem RP.keepT {H H' : Hp} {as : List Addr} {c : List (List (Int × Int))} (k : ∀ b xs, H b = some (.tup xs) → H' b = some (.tup xs)) (h : RP .tup H as c) : RP .tup H' as c := ⟨h.len, fun i a e => by
  obtain ⟨bs, row, h1, h2, h3, h4⟩ := h.g i a e
  exact ⟨bs, row, h1, k _ _ h2, h3, fun j b hb => by obtain ⟨t, l, h5, h6⟩ := h4 j b hb; exact ⟨t, l, h5, k _ _ h6⟩⟩⟩
/-- what holds of a machine -/
structure Vm (I O L : Int) (op : List Int) (c : List (List (Int × Int))) : Prop where
  i1 : 1 ≤ I
  o1 : 1 ≤ O
  l0 : -3 ≤ L
  l1 : L ≤ 2
  op_len : (op.length : Int) = max 0 (-L)
  ne : c ≠ []
  w : ∀ r ∈ c, (r.length : Int) = I
  st : ∀ r ∈ c, ∀ p ∈ r, 0 ≤ p.1 ∧ p.1 < (c.length : Int)
  op_in : ∀ z ∈ op, 0 ≤ z ∧ z < O
  em : ∀ r ∈ c, ∀ p ∈ r, 0 ≤ p.2 ∧ p.2 < O
end Bx
/-! own rule: a tuple times 1 is that tuple -/
namespace Bx
open PySem PySem.Spec PyProof.Rows L2
theorem mul_one (l : Addr) (items : Array Value) (n : Nat) (dd : Option Addr) (sl : Array (Option Value)) (u : Tok) :
    Meets (Builtin.«tuple.__mul__» ⟨[.ref l, .int 1 u], []⟩) (fun _ R s => s.heap.get? l = some { cls := .type "tuple", dict := dd, data := .seq items n, slots := sl } ∧ R (.ok (.ret (.ref l))) s) := .of_wp fun prog w A R s h => by
  obtain ⟨hp, g, d, tk, os⟩ := s
  obtain ⟨hl, h⟩ := h
  have q1 := AutoSeq1.idx_int
  wp_walk using AutoSeq1.wpAny_loadPart' hl
  repeat (first
    | (refine wpAny_ite_true (decide_eq_true (by simp)) ?_; wp_walk using AutoSeq1.wpAny_loadPart' hl)
    | (refine wpAny_ite_false (decide_eq_false (by simp)) ?_; wp_walk using AutoSeq1.wpAny_loadPart' hl))
  exact ⟨_, rfl, h⟩
def rRep1 (K : PySem.W.Frag) : R2 := fun x y H Q => ∃ l k xs, x = .ref l ∧ y = .int k ∧ SqT K H l xs ∧ xs ≠ [] ∧ 1 ≤ k ∧ k ≤ 1000 ∧ xs.length ≤ 1000 ∧ (k = 1 → Q (.ref l) H) ∧ (2 ≤ k → ∀ p, H p = none → Q (.ref p) (upd H p (.tup (List.replicate k.toNat xs).flatten)))
theorem op_rep1K {X : Cx} {K : PySem.W.Frag} (h : X.K = K) : OpR X (binaryOp .Mult) (rRep1 K) := by
  subst h
  intro pins s σ H x y v u Q I rx ry h
  obtain ⟨l, k, xs, ex, ey, hT, hne, h1, h2, hz, q1, q2⟩ := h
  by_cases c : k = 1
  · subst c
    subst ex
    subst ey
    cases rx
    obtain ⟨t, rfl⟩ := ry
    obtain ⟨its, r, ⟨⟨cls, dd, data, sl⟩, ho, hc, n, hd⟩, _⟩ := I.tuple hT
    simp only at hc hd
    subst hc hd
    refine wpAny_binaryOp_repeat_ref (T := "tuple") (U := "int") (by decide) ⟨_, ho, rfl⟩ (fun s' => typeIs_int s' 1 t) noFill_tuple_mul F.fills_int_mul F.slot_int_rmul repeat_tuple F.slot_int_index.lookup
      (call_meets F.slot_int_rmul (typeIs_int s 1 t) F.entry_int_rmul (F.args_int_rmul_2 _ _) (int_rmul_tuple 1 t l its.toArray n dd sl)
        ⟨ho, rfl, ⟨_, ho, rfl⟩, call_meets F.slot_tuple_mul ⟨_, ho, rfl⟩ F.entry_tuple_mul (F.args_tuple_mul_2 _ _) (mul_one l its.toArray n dd sl t) ⟨ho, ?_⟩⟩)
    exact ⟨.ref l, H, I, rfl, q1 rfl⟩
  · exact op_repT pins s σ H x y v u Q I rx ry ⟨l, k, xs, ex, ey, hT, hne, by omega, h2, hz, q2 (by omega)⟩
end Bx
namespace Bx
open PySem PySem.Spec PyProof.Rows L2
section
variable {X : Cx} {K : PySem.W.Frag}
theorem pe_revLK {e : Expr} {te : TE} {k : Nat} {p1 p2 p3 pos : Pos} (h : X.K = K) (he : PE X e te) : PE X (.Subscript e (.Slice none none (some (.UnaryOp .USub (.Constant (.int 1) k p1) p2)) p3) pos) (tRevL K te) := by
  subst h
  exact pe_revL he
end
section
variable {X : Cx} {k : Nat} {C f : Addr} {fd : FuncData} {ps : List Str} {sp : Sp} {W : WX} {m fl : Str} {p pos apos : Pos} {e o : Expr} {es : List Expr} {ta : TE} {t : TA}
/-- o.f as a target -/
def gFld (K : PySem.W.Frag) (to : TE) (f : Str) : TG := fun v σ H Q => to σ H fun x H2 => ∃ a C dx fs, x = .ref a ∧ H2 a = some (.ins C dx fs) ∧ Cls K C ∧ NoAttr K C f ∧ fs.length < 1000 ∧ Q σ (upd H2 a (.ins C dx (putF f v fs)))
theorem pg_fld (ho : PE X o ta) (ha : ∀ v, assign (.Attribute o fl pos) X.env v = (do
      let ov ← holding [v] (eval o X.env)
      standAt pos.atName
      holding [v, ov] (setAttr ov fl v)
      release [v, ov] []) := by intro _; rfl) : PG X (.Attribute o fl pos) (gFld X.K ta fl) := by
  refine ⟨fun pins s σ H v u Q I r h => ?_⟩
  rw [ha]
  refine wpAny_bind (wpAny_holding (thn (ho.run pins s σ H _ I h) fun ov s1 ⟨x, H1, I1, r1, a, C, dx, fs, ex, ea, c, n, l, q⟩ => ?_))
  subst ex
  obtain rfl : ov = Value.ref a := r1
  refine wpAny_bind (wpAny_standAt (wpAny_bind (wpAny_holding (setattr_ok I1 ea c n l r fun s3 I3 => ?_))))
  exact wpAny_release ⟨σ, _, I3, q⟩
/-- o.m(e) where the method may raise, in a try -/
def tMethX (C : Addr) (m : Str) (sp : Sp) (E : L2.St → XK) (ta : TE) (t : TA) : TE := fun σ H Q => ta σ H fun x H1 => ∃ a dx fs, x = .ref a ∧ H1 a = some (.ins C dx fs) ∧ fs.lookup m = none ∧ t σ H1 fun vs H2 => sp (x :: vs) H2 Q (E σ)
theorem pe_methX {pl : Sem Bool} (he : PE X o ta) (c : Cls X.K C) (hm : Meth X.K C m f) (F : FnOk X.prog X.w X.K X.mg X.base (L2.CX X.prog X.w) k f fd ps sp) (hr : Room k X.A) (hb : Binds X.K fd ps []) (tk : Takes X W) (ha : PA X (e :: es) t)
    (hst : starEach (e :: es) X.env = (false, eval e X.env) :: starEach es X.env := by rfl) (hpl : (backTo pos (starEach es X.env)).any (·.1) = false := by rfl)
    (ht : eval (.Call (.Attribute o m apos) (e :: es) [] pos) X.env = (do
      let ov ← eval o X.env
      standAt apos.atName
      let (f, first) ← holding [ov] (getMethod ov m pl)
      callWith pos f first (backTo pos (starEach (e :: es) X.env)) (backToKw pos (keywordEach [] X.env))) := by rfl) :
    PE X (.Call (.Attribute o m apos) (e :: es) [] pos) (tMethX C m sp (WE W) ta t) := by
  refine ⟨fun pins s σ H Q I h => ?_⟩
  refine PySem.W.methodCall_KW (pl := pl) (thn (he.run pins s σ H _ I h) fun u s1 ⟨x, H1, I1, rx, a, dx, fs, ex, ea, l, q⟩ => ?_) ht
  subst ex
  obtain rfl : u = Value.ref a := rx
  refine getmeth_ok I1 ea c hm l ?_
  refine PySem.W.callWith_K (first := [.ref a]) (h₀ := X.base) I.ok.mod.kin hm.kp (thn (ha.run pos pins s1 σ H1 _ I1 q) fun us s2 ⟨vs, H2, I2, r, q2⟩ => ⟨I2.kIn, ?_⟩) hst hpl
  exact run_fnS (us := .ref a :: us) (vs := .ref a :: vs) F hr hb (passAt tk σ) I2 (.cons rfl r) q2
end
/-- a journal's attributes -/
def jf (ma : Addr) (sp : Int) (tx : Str) (st tu : Int) (an : Addr) : List (Str × V) := [("machine", .ref ma), ("spacing", .int sp), ("text", .str tx), ("state", .int st), ("turns", .int tu), ("answers", .ref an)]
theorem jf_text (ma sp tx st tu an t') : putF "text" (.str t') (jf ma sp tx st tu an) = jf ma sp t' st tu an := by rfl
theorem jf_state (ma sp tx st tu an t') : putF "state" (.int t') (jf ma sp tx st tu an) = jf ma sp tx t' tu an := by rfl
theorem jf_turns (ma sp tx st tu an t') : putF "turns" (.int t') (jf ma sp tx st tu an) = jf ma sp tx st t' an := by rfl
theorem jl_m (ma sp tx st tu an) : (jf ma sp tx st tu an).lookup ("machine" : Str) = some (V.ref ma) := by rfl
theorem jl_sp (ma sp tx st tu an) : (jf ma sp tx st tu an).lookup ("spacing" : Str) = some (V.int sp) := by rfl
theorem jl_tx (ma sp tx st tu an) : (jf ma sp tx st tu an).lookup ("text" : Str) = some (V.str tx) := by rfl
theorem jl_st (ma sp tx st tu an) : (jf ma sp tx st tu an).lookup ("state" : Str) = some (V.int st) := by rfl
theorem jl_tu (ma sp tx st tu an) : (jf ma sp tx st tu an).lookup ("turns" : Str) = some (V.int tu) := by rfl
theorem jl_an (ma sp tx st tu an) : (jf ma sp tx st tu an).lookup ("answers" : Str) = some (V.ref an) := by rfl
theorem jl_hear (ma sp tx st tu an) : (jf ma sp tx st tu an).lookup ("hear" : Str) = none := by rfl
theorem jf_new (ma : Addr) (sp : Int) (tx : Str) (an : Addr) : putF "answers" (.ref an) (putF "turns" (.int 0) (putF "state" (.int 0) (putF "text" (.str tx) (putF "spacing" (.int sp) (putF "machine" (.ref ma) []))))) = jf ma sp tx 0 0 an := by rfl
structure JrnC (K : PySem.W.Frag) (C : Addr) : Prop where
  cl : Cls K C
  nm : NoAttr K C "machine"
  nsp : NoAttr K C "spacing"
  ntx : NoAttr K C "text"
  nst : NoAttr K C "state"
  ntu : NoAttr K C "turns"
  nan : NoAttr K C "answers"
/-- all but some objects stay -/
def Kpl (l : List Addr) (H H' : Hp) : Prop := ∀ b o, b ∉ l → H b = some o → H' b = some o
theorem Kpl.refl (l : List Addr) (H : Hp) : Kpl l H H := fun _ _ _ h => h
theorem Kpl.trans {l : List Addr} {H H1 H2 : Hp} (a : Kpl l H H1) (b : Kpl l H1 H2) : Kpl l H H2 := fun x o n h => b _ _ n (a _ _ n h)
theorem Kpl.same {l : List Addr} {H H1 : Hp} (s : Same H H1) : Kpl l H H1 := fun x o _ h => s _ _ h
theorem Kpl.own {l : List Addr} {H : Hp} {a : Addr} {o : HO} (h : a ∈ l) : Kpl l H (upd H a o) := fun x o' n hx => by rw [upd_ne (fun z => n (by rw [z]; exact h))]; exact hx
theorem Kpl.more {l l' : List Addr} {H H1 : Hp} (k : Kpl l H H1) (h : ∀ a ∈ l, a ∈ l') : Kpl l' H H1 := fun x o n hx => k _ _ (fun z => n (h _ z)) hx
theorem sat {H H' : Hp} {a : Addr} {o : HO} (s : Same H H') (h : H a = some o) : H' a = some o := s _ _ h
end Bx
namespace Dm
open PySem PySem.Builtin TL
def pad (k : Nat) (l : List Nat) : List Nat := List.replicate (k - l.length) 48 ++ l
theorem pad_snoc (k : Nat) (l : List Nat) (c : Nat) : pad (k + 1) (l ++ [c]) = pad k l ++ [c] := by
  unfold pad
  rw [List.length_append, show k + 1 - (l.length + [c].length) = k - l.length by simp only [List.length_singleton]; omega, List.append_assoc]
theorem numL_pad : ∀ (k q r : Nat), 1 ≤ q → r < 10 ^ (k + 1) → numL (q * 10 ^ (k + 1) + r) = numL q ++ pad (k + 1) (numL r)
  | 0, q, r, hq, hr => by
    have hr : r < 10 := by simpa using hr
    rw [numL_step (by omega), show (q * 10 ^ (0 + 1) + r) / 10 = q by omega, show (q * 10 ^ (0 + 1) + r) % 10 = r by omega, numL_lt hr]
    rfl
  | k + 1, q, r, hq, hr => by
    have e1 : q * 10 ^ (k + 1 + 1) + r = (q * 10 ^ (k + 1)) * 10 + r := by rw [Nat.pow_succ 10 (k + 1), Nat.mul_assoc]
    have hp : 1 ≤ 10 ^ (k + 1) := Nat.one_le_iff_ne_zero.mpr (Nat.pos_iff_ne_zero.mp (Nat.pow_pos (by decide)))
    have hq1 : 1 ≤ q * 10 ^ (k + 1) := Nat.mul_le_mul hq hp
    have hr2 : r / 10 < 10 ^ (k + 1) := by
      rw [Nat.pow_succ 10 (k + 1)] at hr
      omega
    rw [e1, numL_step (by omega), show ((q * 10 ^ (k + 1)) * 10 + r) / 10 = q * 10 ^ (k + 1) + r / 10 by omega, show ((q * 10 ^ (k + 1)) * 10 + r) % 10 = r % 10 by omega, numL_pad k q (r / 10) hq hr2]
    by_cases h : r < 10
    · rw [numL_lt h, show r / 10 = 0 by omega, show r % 10 = r by omega, numL_lt (by decide : (0 : Nat) < 10)]
      unfold pad
      simp only [List.length_singleton]
      rw [show k + 1 + 1 - 1 = (k + 1 - 1) + 1 by omega, List.replicate_succ', List.append_assoc, List.append_assoc]
    · rw [numL_step (show 10 ≤ r by omega), pad_snoc, List.append_assoc]
theorem zf {r : Nat} (hr : r < 10 ^ 18) : tl (Txt.zfill (Str.ofString (toString ((r : Nat) : Int))) 18) = pad 18 (numL r) := by
  have hl : (Str.ofString (toString ((r : Nat) : Int))).length = (numL r).length := by rw [len_tl, tl_num]
  have hle := numL_len (by decide : 0 < 18) hr
  unfold Txt.zfill
  rw [hl]
  by_cases h : (18 : Int) ≤ ((numL r).length : Nat)
  · rw [if_pos h, tl_num]
    unfold pad
    rw [show 18 - (numL r).length = 0 by omega]
    rfl
  · rw [if_neg h]
    have hz : ∀ (x : Str) (m : Nat), (∀ c, x.cps[0]? = some c → 48 ≤ c) → tl (zfilled x m) = List.replicate m 48 ++ tl x := by
      intro x m hc
      unfold zfilled
      have hp : tl (Builtin.Str.padded x m 0 48) = List.replicate m 48 ++ tl x := by
        unfold Builtin.Str.padded
        show (Array.replicate m 48 ++ x.cps ++ Array.replicate 0 48).toList = _
        simp [tl]
      split
      · rename_i e; have := hc _ e; omega
      · rename_i e; have := hc _ e; omega
      · exact hp
    rw [hz, tl_num]
    · unfold pad
      rw [show (18 : Int).toNat - (numL r).length = 18 - (numL r).length from rfl]
    · intro c hc
      have : c ∈ numL r := by
        rw [← tl_num]
        have := Array.getElem?_eq_some_iff.mp hc
        obtain ⟨h1, h2⟩ := this
        exact Array.mem_toList_iff.mpr (by rw [← h2]; exact Array.getElem_mem h1)
      exact (numL_digits r c this).1
end Dm
namespace Bx
open PySem PySem.Spec PyProof.Rows L2
/-- for c in text -/
theorem for_str {x : Str} {g : TG} {tb : TS} {D : Ends} {σ : L2.St} {H : Hp} (Pv : Nat → L2.St → Hp → Prop) (h0 : Pv 0 σ H)
    (hs : ∀ i c σ H, x.cps[i]? = some c → Pv i σ H → g (.str ⟨#[c]⟩) σ H fun σ2 H2 => tb { D with nx := Pv (i + 1), ct := Pv (i + 1), bk := D.nx } σ2 H2) (hd : ∀ σ H, Pv x.cps.size σ H → D.nx σ H) :
    ∃ W : Nat → Nat → L2.St → Hp → Prop, (∃ m, W 0 m σ H) ∧ ∀ i m σ H, W i m σ H →
      ((Its x).stop i H ∧ D.nx σ H) ∨ ((Its x).go i H ∧ ∃ N : L2.St → Hp → Prop, (∀ σ' H', N σ' H' → ∃ m', m' < m ∧ W (i + 1) m' σ' H') ∧ ∀ v H', (Its x).yld i H v H' → g v σ H' fun σ2 H2 => tb { D with nx := N, ct := N, bk := D.nx } σ2 H2) := by
  refine ⟨fun i m σ H => m = x.cps.size - i ∧ i ≤ x.cps.size ∧ Pv i σ H, ⟨x.cps.size, by simp, Nat.zero_le _, h0⟩, ?_⟩
  rintro i m σ H ⟨rfl, hi, p⟩
  by_cases hlt : i < x.cps.size
  · refine .inr ⟨hlt, Pv (i + 1), fun σ' H' p' => ⟨x.cps.size - (i + 1), by omega, rfl, hlt, p'⟩, fun v H' y => ?_⟩
    obtain ⟨e, c, hc, rfl⟩ := y
    subst e
    exact hs i c σ _ hc p
  · have e : i = x.cps.size := by omega
    subst e
    exact .inl ⟨Nat.le_refl _, hd _ _ p⟩
end Bx
namespace Bx
open PySem PySem.Spec PyProof.Rows L2
/-- {k: v}, k a tuple of numbers and texts -/
def dispQ (p : Addr) (Q : VK) : List (V × V) → Hp → Prop
  | [(y, z)], H2 => ∃ (b : Addr) (ks : List L2.Key), y = .ref b ∧ H2 b = some (.tup (ks.map kV)) ∧ H2 p = some (.dT []) ∧ Q (.ref p) (upd H2 p (.dT [(ks, z)]))
  | _, _ => False
def tDispT (tk tv : TE) : TE := fun σ H Q => ∀ p, H p = none → tk σ (upd H p (.dT [])) fun y H1 => tv σ H1 fun z H2 => dispQ p Q [(y, z)] H2
theorem pe_dispT {X : Cx} {pos : Pos} {k v : Expr} {tk tv : TE} (hu : X.A.units + 1 < cLine) (hk : PE X k tk) (hv : PE X v tv) : PE X (.Dict [some k] [v] pos) (tDispT tk tv) := by
  refine ⟨fun pins s σ H Q I h => ?_⟩
  refine wpAny_Dict_any rfl rfl (by simp) (by show 1 ≤ 15; decide) ?_
  have hf : H s.heap.objs.size = none := I.hok.fresh (Nat.le_refl _)
  have h1 := h s.heap.objs.size hf
  have I1 : Inv X pins σ (upd H s.heap.objs.size (.dT [])) { heap := s.heap.push { cls := .type "dict", data := .dict #[] }, gens := s.gens, drawn := s.drawn, toks := s.toks, os := s.os } := by
    refine I.laid (t' := s.toks) (fun b o hb => ?_) (Nat.le_refl _) (dt_empty s.heap ?_)
    · exact Heap.get?_push_of_some _ hb
    · exact I.big
  refine wpAny_mono ((pps_cons hk hv pps_nil).run pins _ σ _ (dispQ s.heap.objs.size Q) I1 h1) (fun vs s1 hq => ?_) (fun _ _ z => z)
  obtain ⟨ps, H2, I2, rv, hq⟩ := hq
  match ps, rv, hq with
  | [(y, z)], rv, ⟨b, ks, e, eb, ed, q⟩ =>
    subst e
    obtain ⟨_, hsm, xs, kt, D⟩ := dt_of I2.hok ed
    cases kt
    cases rv with
    | cons r0 rt =>
      rename_i u0 us0
      cases rt
      obtain ⟨u, r⟩ := u0
      obtain ⟨ra, rb⟩ := r0
      cases ra
      unfold storeAll
      simp only [List.forIn_cons, List.forIn_nil]
      refine wpAny_bind (wpAny_bind (wpAny_dictSet_heap (knd := tupleKind (mixKind X.prog X.w)) (Nat.lt_of_le_of_lt (Nat.le_succ _) hu) (key_of I2.hok eb) D (fun h' D' sb => ?_) (by show 0 ≤ sizeLine; exact Nat.zero_le _)))
      refine wpAny_pure ?_
      refine wpAny_pure ?_
      refine ⟨.ref s.heap.objs.size, upd H2 s.heap.objs.size (.dT [(ks, z)]), ?_, rfl, q⟩
      refine d_write I2 (by rw [ed]; exact True.intro) sb ?_ ?_
      · obtain ⟨o, es, ep, g, _⟩ := D'
        exact ⟨o, g⟩
      · have nb : b ≠ s.heap.objs.size := fun e => by rw [e, ed] at eb; cases eb
        refine ⟨by show 1 ≤ sizeLine; decide, hsm, [(ks, b, r)], .cons ⟨rfl, by rw [upd_ne nb]; exact eb, rb⟩ .nil, ?_⟩
        obtain ⟨o, es, ep, g1, g2, g3, g4, _, g5⟩ := D'
        exact ⟨o, es, ep, g1, g2, g3, g4, g5⟩
theorem op_notInDK {X : Cx} {K : PySem.W.Frag} (h : X.K = K) (hu : X.A.units + 65 < cLine) : OpR X (compareOp .NotIn) (rNotInD K) := by
  subst h
  exact op_notInD hu
end Bx
namespace Gr
/-! Directed graphs as rows; what a depth-first order and components by it are. -/
abbrev G := List (List Nat)
def row (g : G) (u : Nat) : List Nat := g.getD u []
def E (g : G) (u v : Nat) : Prop := v ∈ row g u
inductive Rc (g : G) : Nat → Nat → Prop
  | refl (u : Nat) : Rc g u u
  | step {u v w : Nat} : E g u v → Rc g v w → Rc g u w
theorem Rc.one {g : G} {u v : Nat} (h : E g u v) : Rc g u v := .step h (.refl v)
theorem Rc.trans {g : G} {u v w : Nat} (h : Rc g u v) (k : Rc g v w) : Rc g u w := by
  induction h with
  | refl _ => exact k
  | step e _ ih => exact .step e (ih k)
theorem Rc.snoc {g : G} {u v w : Nat} (h : Rc g u v) (k : E g v w) : Rc g u w := h.trans (.one k)
/-- a way that leaves a set crosses its border -/
theorem Rc.cross {g : G} {S : Nat → Prop} {u v : Nat} (h : Rc g u v) (hu : S u) (hv : ¬ S v) : ∃ b y, S b ∧ E g b y ∧ ¬ S y ∧ Rc g u b ∧ Rc g y v := by
  induction h with
  | refl _ => exact absurd hu hv
  | @step a b c e r ih =>
    by_cases hb : S b
    · obtain ⟨x, y, h1, h2, h3, h4, h5⟩ := ih hb hv
      exact ⟨x, y, h1, h2, h3, .step e h4, h5⟩
    · exact ⟨a, b, hu, e, hb, .refl _, r⟩
def Ok (g : G) : Prop := ∀ u, ∀ v ∈ row g u, v < g.length
theorem Ok.rc {g : G} (h : Ok g) {u v : Nat} (r : Rc g u v) (hu : u < g.length) : v < g.length := by
  induction r with
  | refl _ => exact hu
  | step e _ ih => exact ih (h _ _ e)
/-- mutual -/
def Mu (g : G) (u v : Nat) : Prop := Rc g u v ∧ Rc g v u
theorem Mu.symm {g : G} {u v : Nat} (h : Mu g u v) : Mu g v u := ⟨h.2, h.1⟩
theorem Mu.refl (g : G) (u : Nat) : Mu g u u := ⟨.refl _, .refl _⟩
theorem Mu.trans {g : G} {u v w : Nat} (h : Mu g u v) (k : Mu g v w) : Mu g u w := ⟨h.1.trans k.1, k.2.trans h.2⟩

/-- the last one in a list -/
theorem last_split {P : Nat → Prop} : ∀ {l : List Nat}, (∃ x ∈ l, P x) → ∃ A w B, l = A ++ w :: B ∧ P w ∧ ∀ b ∈ B, ¬ P b
  | [], h => by obtain ⟨_, h, _⟩ := h; cases h
  | y :: l, h => by
    by_cases k : ∃ x ∈ l, P x
    · obtain ⟨A, w, B, e, h1, h2⟩ := last_split k
      exact ⟨y :: A, w, B, by rw [e]; rfl, h1, h2⟩
    · obtain ⟨x, hx, p⟩ := h
      rcases List.mem_cons.mp hx with rfl | hx
      · exact ⟨[], x, l, rfl, p, fun b hb z => k ⟨b, hb, z⟩⟩
      · exact absurd ⟨x, hx, p⟩ k

/-! ### the order of leaving -/
structure Dfs (g : G) (ord : List Nat) (stk : List (Nat × Nat)) : Prop where
  nd : (ord ++ stk.map (·.1)).Nodup
  lt : ∀ u ∈ ord ++ stk.map (·.1), u < g.length
  ch : stk.Pairwise fun a b => Rc g b.1 a.1
  fo : ∀ x ∈ stk, x.2 ≤ (row g x.1).length ∧ ∀ i y, i < x.2 → (row g x.1)[i]? = some y → y ∈ ord ++ stk.map (·.1)
  bl : ∀ b ∈ ord, ∀ y ∈ row g b, y ∈ ord ++ stk.map (·.1)
  sp : ∀ A u B, ord = A ++ u :: B → ∀ b ∈ A ++ [u], ∀ y ∈ row g b, y ∈ A ++ [u] ∨ Rc g y u
theorem Dfs.nil (g : G) : Dfs g [] [] := ⟨List.nodup_nil, fun u h => (by cases h), List.Pairwise.nil, fun x h => (by cases h), fun b h => (by cases h), fun A u B h => (by cases A <;> cases h)⟩
theorem mem_oc {ord : List Nat} {n f f' : Nat} {stk : List (Nat × Nat)} {y : Nat} : y ∈ ord ++ ((n, f) :: stk).map (·.1) ↔ y ∈ ord ++ ((n, f') :: stk).map (·.1) := Iff.rfl
/-- one edge more, to a node that has been found -/
theorem Dfs.skip {g : G} {ord : List Nat} {n f t : Nat} {stk : List (Nat × Nat)} (h : Dfs g ord ((n, f) :: stk)) (e : (row g n)[f]? = some t) (ht : t ∈ ord ++ ((n, f) :: stk).map (·.1)) : Dfs g ord ((n, f + 1) :: stk) := by
  refine ⟨h.nd, h.lt, ?_, fun x hx => ?_, h.bl, h.sp⟩
  · have := h.ch
    rw [List.pairwise_cons] at this ⊢
    exact this
  · rcases List.mem_cons.mp hx with rfl | hx
    · have hf : f < (row g n).length := by
        rcases Nat.lt_or_ge f (row g n).length with k | k
        · exact k
        · rw [List.getElem?_eq_none k] at e; cases e
      refine ⟨hf, fun i y hi hy => ?_⟩
      rcases Nat.lt_or_ge i f with k | k
      · exact (h.fo _ List.mem_cons_self).2 i y k hy
      · have : i = f := Nat.le_antisymm (Nat.le_of_lt_succ hi) k
        subst this
        have hy : (row g n)[i]? = some y := hy
        rw [e] at hy
        cases hy
        exact ht
    · exact h.fo x (List.mem_cons_of_mem _ hx)
theorem Dfs.skip2 {g : G} {ord : List Nat} {n f t : Nat} {s : Nat × Nat} {stk : List (Nat × Nat)} (h : Dfs g ord (s :: (n, f) :: stk)) (e : (row g n)[f]? = some t) (ht : t ∈ ord ++ (s :: (n, f) :: stk).map (·.1)) : Dfs g ord (s :: (n, f + 1) :: stk) := by
  refine ⟨h.nd, h.lt, ?_, fun x hx => ?_, h.bl, h.sp⟩
  · have := h.ch
    rw [List.pairwise_cons, List.pairwise_cons] at this ⊢
    refine ⟨fun a ha => ?_, this.2⟩
    rcases List.mem_cons.mp ha with rfl | ha
    · exact this.1 (n, f) List.mem_cons_self
    · exact this.1 a (List.mem_cons_of_mem _ ha)
  · rcases List.mem_cons.mp hx with rfl | hx
    · exact h.fo x List.mem_cons_self
    rcases List.mem_cons.mp hx with rfl | hx
    · have hf : f < (row g n).length := by
        rcases Nat.lt_or_ge f (row g n).length with k | k
        · exact k
        · rw [List.getElem?_eq_none k] at e; cases e
      refine ⟨hf, fun i y hi hy => ?_⟩
      rcases Nat.lt_or_ge i f with k | k
      · exact (h.fo (n, f) (by simp)).2 i y k hy
      · have : i = f := Nat.le_antisymm (Nat.le_of_lt_succ hi) k
        subst this
        have hy : (row g n)[i]? = some y := hy
        rw [e] at hy
        cases hy
        exact ht
    · exact h.fo x (by simp [hx])
/-- a new node -/
theorem Dfs.push {g : G} {ord : List Nat} {t : Nat} {stk : List (Nat × Nat)} (h : Dfs g ord stk) (hl : t < g.length) (ht : t ∉ ord ++ stk.map (·.1)) (hr : ∀ x ∈ stk, Rc g x.1 t) : Dfs g ord ((t, 0) :: stk) := by
  have up : ∀ y, y ∈ ord ++ stk.map (·.1) → y ∈ ord ++ ((t, 0) :: stk).map (·.1) := fun y hy => by
    rcases List.mem_append.mp hy with k | k
    · exact List.mem_append.mpr (.inl k)
    · exact List.mem_append.mpr (.inr (List.mem_cons_of_mem _ k))
  refine ⟨?_, fun u hu => ?_, ?_, fun x hx => ?_, fun b hb y hy => up y (h.bl b hb y hy), h.sp⟩
  · show (ord ++ t :: stk.map (·.1)).Nodup
    have hn := h.nd
    rw [List.nodup_append] at hn ⊢
    refine ⟨hn.1, ?_, fun a ha b hb => ?_⟩
    · rw [List.nodup_cons]
      exact ⟨fun z => ht (List.mem_append.mpr (.inr z)), hn.2.1⟩
    · rcases List.mem_cons.mp hb with rfl | hb
      · exact fun z => ht (List.mem_append.mpr (.inl (z ▸ ha)))
      · exact hn.2.2 a ha b hb
  · rcases List.mem_append.mp hu with k | k
    · exact h.lt u (List.mem_append.mpr (.inl k))
    · rcases List.mem_cons.mp k with rfl | k
      · exact hl
      · exact h.lt u (List.mem_append.mpr (.inr k))
  · rw [List.pairwise_cons]
    exact ⟨fun x hx => hr x hx, h.ch⟩
  · rcases List.mem_cons.mp hx with rfl | hx
    · exact ⟨Nat.zero_le _, fun i y hi => absurd hi (Nat.not_lt_zero _)⟩
    · exact ⟨(h.fo x hx).1, fun i y hi hy => up y ((h.fo x hx).2 i y hi hy)⟩
/-- the top is left -/
theorem Dfs.pop {g : G} {ord : List Nat} {n : Nat} {stk : List (Nat × Nat)} (h : Dfs g ord ((n, (row g n).length) :: stk)) : Dfs g (ord ++ [n]) stk := by
  have perm : ∀ y, y ∈ ord ++ ((n, (row g n).length) :: stk).map (·.1) ↔ y ∈ (ord ++ [n]) ++ stk.map (·.1) := fun y => by
    rw [List.append_assoc]; rfl
  have succ : ∀ y ∈ row g n, y ∈ ord ++ ((n, (row g n).length) :: stk).map (·.1) := fun y hy => by
    obtain ⟨i, hi⟩ := List.mem_iff_getElem?.mp hy
    have hl : i < (row g n).length := by
      rcases Nat.lt_or_ge i (row g n).length with k | k
      · exact k
      · rw [List.getElem?_eq_none k] at hi; cases hi
    exact (h.fo _ List.mem_cons_self).2 i y hl hi
  have ch := h.ch
  rw [List.pairwise_cons] at ch
  refine ⟨?_, fun u hu => h.lt u ((perm u).mpr hu), ch.2, fun x hx => ?_, fun b hb y hy => ?_, fun A u B e b hb y hy => ?_⟩
  · have := h.nd
    rw [List.append_assoc]
    exact this
  · have := h.fo x (List.mem_cons_of_mem _ hx)
    exact ⟨this.1, fun i y hi hy => (perm y).mp (this.2 i y hi hy)⟩
  · rcases List.mem_append.mp hb with k | k
    · exact (perm y).mp (h.bl b k y hy)
    · rw [List.mem_singleton] at k
      subst k
      exact (perm y).mp (succ y hy)
  · rcases List.eq_nil_or_concat B with rfl | ⟨B', z, rfl⟩
    · have e2 := List.append_inj' e rfl
      have eA := e2.1
      have eu : n = u := (List.cons.inj e2.2).1
      subst eA; subst eu
      have hy' : y ∈ ord ++ ((n, (row g n).length) :: stk).map (·.1) := by
        rcases List.mem_append.mp hb with k | k
        · exact h.bl b k y hy
        · rw [List.mem_singleton] at k
          subst k
          exact succ y hy
      rcases List.mem_append.mp hy' with k | k
      · exact .inl (List.mem_append.mpr (.inl k))
      · rcases List.mem_cons.mp k with k | k
        · exact .inl (List.mem_append.mpr (.inr (by rw [k]; exact List.mem_singleton.mpr rfl)))
        · obtain ⟨x, hx, rfl⟩ := List.mem_map.mp k
          exact .inr (ch.1 x hx)
    · have e2 : ord ++ [n] = (A ++ u :: B') ++ [z] := by rw [e, List.concat_eq_append, List.append_assoc]; rfl
      exact h.sp A u B' (List.append_inj' e2 rfl).1 b hb y hy

/-- what a finished search has -/
structure Fin (g : G) (ord : List Nat) : Prop where
  nd : ord.Nodup
  all : ∀ u, u ∈ ord ↔ u < g.length
  sp : ∀ A u B, ord = A ++ u :: B → ∀ b ∈ A ++ [u], ∀ y ∈ row g b, y ∈ A ++ [u] ∨ Rc g y u
theorem Dfs.fin {g : G} {ord : List Nat} (h : Dfs g ord []) (k : ∀ u, u < g.length → u ∈ ord) : Fin g ord := by
  have hn := h.nd
  simp only [List.map_nil, List.append_nil] at hn
  exact ⟨hn, fun u => ⟨fun z => h.lt u (List.mem_append.mpr (.inl z)), k u⟩, h.sp⟩
theorem nodup_split {A B : List Nat} {w : Nat} (h : (A ++ w :: B).Nodup) : w ∉ A ∧ w ∉ B ∧ ∀ a ∈ A, a ∉ B := by
  rw [List.nodup_append, List.nodup_cons] at h
  exact ⟨fun z => h.2.2 w z w List.mem_cons_self rfl, h.2.1.1, fun a ha hb => h.2.2 a ha a (List.mem_cons_of_mem _ hb) rfl⟩
/-- from a node that may not stand behind s (nor its companions) no way leads to s, but in a circle -/
theorem Fin.back {g : G} {A B : List Nat} {s u : Nat} (ok : Ok g) (h : Fin g (A ++ s :: B)) (hu : u < g.length) (r : Rc g u s) (no : ∀ b ∈ B, ¬ Mu g u b) : Rc g s u := by
  obtain ⟨A1, w, B1, e, hw, hB⟩ := last_split (P := fun x => Mu g u x) (l := A ++ s :: B) ⟨u, (h.all u).mpr hu, Mu.refl g u⟩
  have nd := h.nd
  have hwm : w ∈ A ++ s :: B := by rw [e]; simp
  by_cases ews : w = s
  · subst ews; exact hw.2
  have hwA : w ∈ A := by
    rcases List.mem_append.mp hwm with k | k
    · exact k
    · rcases List.mem_cons.mp k with k | k
      · exact absurd k ews
      · exact absurd hw (no w k)
  -- s stands behind w
  have hsB : s ∉ A1 ++ [w] := by
    intro hs
    have hs1 : s ∈ A1 := by
      rcases List.mem_append.mp hs with k | k
      · exact k
      · exact absurd (List.mem_singleton.mp k).symm ews
    -- then A is shorter than A1: w ∈ A stands ahead of s, so w ∈ A1
    obtain ⟨C, D, eC⟩ := List.append_of_mem hs1
    have e2 : A ++ s :: B = C ++ s :: (D ++ w :: B1) := by rw [e, eC, List.append_assoc]; rfl
    have nd2 := nd
    rw [e2] at nd2
    have n1 := nodup_split nd
    have n2 := nodup_split nd2
    have : w ∈ B := by
      rcases List.append_eq_append_iff.mp e2 with ⟨F, h1, h2⟩ | ⟨F, h1, h2⟩
      · cases F with
        | nil => rw [List.nil_append] at h2; rw [(List.cons.inj h2).2]; simp
        | cons x F =>
          have h3 := List.cons.inj h2
          exact absurd (by rw [h1, ← h3.1]; simp) n2.1
      · cases F with
        | nil => rw [List.nil_append] at h2; rw [← (List.cons.inj h2).2]; simp
        | cons x F =>
          have h3 := List.cons.inj h2
          exact absurd (by rw [h1, ← h3.1]; simp) n1.1
    exact n1.2.2 w hwA this
  have huA : u ∈ A1 ++ [w] := by
    have hum : u ∈ A1 ++ w :: B1 := by rw [← e]; exact (h.all u).mpr hu
    rcases List.mem_append.mp hum with k | k
    · exact List.mem_append.mpr (.inl k)
    · rcases List.mem_cons.mp k with k | k
      · rw [k]; simp
      · exact absurd (Mu.refl g u) (hB u k)
  obtain ⟨b, y, hb, hy, hny, r1, r2⟩ := r.cross (S := fun x => x ∈ A1 ++ [w]) huA hsB
  rcases h.sp A1 w B1 e b hb y hy with k | k
  · exact absurd k hny
  · have mu : Mu g u y := ⟨r1.snoc hy, k.trans hw.2⟩
    have hym : y ∈ A1 ++ w :: B1 := by rw [← e]; exact (h.all y).mpr (ok b y hy)
    rcases List.mem_append.mp hym with z | z
    · exact absurd (List.mem_append.mpr (.inl z)) hny
    · rcases List.mem_cons.mp z with z | z
      · exact absurd (by rw [z]; simp) hny
      · exact absurd mu (hB y z)

/-! ### components: homes are numbers of nodes, -1 for none -/
/-- H u is u's number if it has one -/
structure Cmp (g : G) (H : Nat → Option Nat) (c : Nat) : Prop where
  lt : ∀ u i, H u = some i → i < c ∧ u < g.length
  eq : ∀ u v i j, H u = some i → H v = some j → (i = j ↔ Mu g u v)
  mu : ∀ u v i, H u = some i → Mu g u v → H v ≠ none
  ed : ∀ u v j, E g u v → u < g.length → H v = some j → ∃ i, H u = some i ∧ i ≤ j
  us : ∀ i, i < c → ∃ u, H u = some i
theorem Cmp.nil (g : G) : Cmp g (fun _ => none) 0 := ⟨fun _ _ h => (by cases h), fun _ _ _ _ h => (by cases h), fun _ _ _ h => (by cases h), fun _ _ _ _ _ h => (by cases h), fun i h => absurd h (Nat.not_lt_zero i)⟩
theorem Cmp.rc {g : G} {H : Nat → Option Nat} {c : Nat} (h : Cmp g H c) {u v j : Nat} (ok : Ok g) (r : Rc g u v) (hu : u < g.length) (hv : H v = some j) : ∃ i, H u = some i ∧ i ≤ j := by
  induction r with
  | refl _ => exact ⟨j, hv, Nat.le_refl _⟩
  | step e _ ih =>
    obtain ⟨i, h1, h2⟩ := ih (ok _ _ e) hv
    obtain ⟨i', h3, h4⟩ := h.ed _ _ i e hu h1
    exact ⟨i', h3, Nat.le_trans h4 h2⟩
/-- one component more: the set S of the nodes without a number from which start can be reached -/
theorem Cmp.more {g : G} {H H' : Nat → Option Nat} {c s : Nat} {A B : List Nat} (ok : Ok g) (h : Cmp g H c) (f : Fin g (A ++ s :: B)) (hB : ∀ b ∈ B, H b ≠ none) (hs : H s = none)
    (h1 : ∀ u i, H u = some i → H' u = some i) (h2 : ∀ u i, H u = none → H' u = some i → i = c ∧ u < g.length ∧ Rc g u s) (h3 : ∀ u, u < g.length → Rc g u s → H u = none → H' u = some c) : Cmp g H' (c + 1) := by
  have hsl : s < g.length := (f.all s).mp (by simp)
  -- the new ones are mutual with s
  have new : ∀ u, H u = none → u < g.length → Rc g u s → Mu g u s := fun u hu hl r => ⟨r, f.back ok hl r fun b hb m => by
    cases e : H b with
    | none => exact hB b hb e
    | some i => exact h.mu b u i e m.symm hu⟩
  have old : ∀ u i, H' u = some i → H u = some i ∨ (H u = none ∧ i = c ∧ u < g.length ∧ Mu g u s) := fun u i e => by
    cases k : H u with
    | none =>
      obtain ⟨e1, e2, e3⟩ := h2 u i k e
      exact .inr ⟨rfl, e1, e2, new u k e2 e3⟩
    | some j =>
      rw [h1 u j k] at e
      exact .inl e
  refine ⟨fun u i e => ?_, fun u v i j e1 e2 => ?_, fun u v i e m => ?_, fun u v j e hu ev => ?_, fun i hi => ?_⟩
  · rcases old u i e with k | ⟨_, k1, k2, _⟩
    · exact ⟨Nat.lt_succ_of_lt (h.lt u i k).1, (h.lt u i k).2⟩
    · exact ⟨by omega, k2⟩
  · rcases old u i e1 with k | ⟨a1, a2, a3, a4⟩ <;> rcases old v j e2 with l | ⟨b1, b2, b3, b4⟩
    · exact h.eq u v i j k l
    · refine ⟨fun z => ?_, fun m => absurd b1 (h.mu u v i k m)⟩
      have := (h.lt u i k).1
      omega
    · refine ⟨fun z => ?_, fun m => absurd a1 (h.mu v u j l m.symm)⟩
      have := (h.lt v j l).1
      omega
    · exact ⟨fun _ => a4.trans b4.symm, fun _ => by rw [a2, b2]⟩
  · rcases old u i e with k | ⟨a1, a2, a3, a4⟩
    · intro z
      cases e' : H v with
      | none => exact h.mu u v i k m e'
      | some j => rw [h1 v j e'] at z; cases z
    · intro z
      have hv : v < g.length := ok.rc m.1 a3
      cases e' : H v with
      | none => rw [h3 v hv (m.2.trans a4.1) e'] at z; cases z
      | some j => rw [h1 v j e'] at z; cases z
  · rcases old v j ev with k | ⟨a1, a2, a3, a4⟩
    · obtain ⟨i, k1, k2⟩ := h.ed u v j e hu k
      exact ⟨i, h1 u i k1, k2⟩
    · cases k : H u with
      | none => exact ⟨c, h3 u hu (.step e a4.1) k, by omega⟩
      | some i => exact ⟨i, h1 u i k, by have := (h.lt u i k).1; omega⟩
  · rcases Nat.lt_or_ge i c with k | k
    · obtain ⟨u, e⟩ := h.us i k
      exact ⟨u, h1 u i e⟩
    · exact ⟨s, by rw [h3 s hsl (.refl s) hs]; congr 1; omega⟩
/-- finished: every node has a number -/
structure Comps (g : G) (h : List Nat) (c : Nat) : Prop where
  len : h.length = g.length
  lt : ∀ i ∈ h, i < c
  eq : ∀ u v i j, h[u]? = some i → h[v]? = some j → (i = j ↔ Mu g u v)
  ed : ∀ u v i j, E g u v → h[u]? = some i → h[v]? = some j → i ≤ j
  us : ∀ i, i < c → i ∈ h
/-- on a cycle -/
def Cyc (g : G) (u : Nat) : Prop := ∃ v, E g u v ∧ Rc g v u
theorem Rc.cases_step {g : G} {u v : Nat} (r : Rc g u v) : u = v ∨ ∃ w, E g u w ∧ Rc g w v := by
  cases r with
  | refl _ => exact .inl rfl
  | step e r => exact .inr ⟨_, e, r⟩
/-- a node's component has an inner edge exactly if the node lies on a cycle -/
theorem cyc_iff {g : G} {h : List Nat} {c : Nat} (ok : Ok g) (k : Comps g h c) {u i : Nat} (hu : h[u]? = some i) : Cyc g u ↔ ∃ a b, E g a b ∧ h[a]? = some i ∧ h[b]? = some i := by
  have hl : ∀ {x j : Nat}, h[x]? = some j → x < g.length := fun {x j} e => by
    rw [← k.len]
    rcases Nat.lt_or_ge x h.length with z | z
    · exact z
    · rw [List.getElem?_eq_none z] at e; cases e
  constructor
  · rintro ⟨v, e, r⟩
    have hv : v < h.length := by rw [k.len]; exact ok u v e
    refine ⟨u, v, e, hu, ?_⟩
    have e2 := List.getElem?_eq_getElem hv
    rw [e2]
    congr 1
    exact ((k.eq u v i _ hu e2).mpr ⟨.one e, r⟩).symm
  · rintro ⟨a, b, e, ha, hb⟩
    have m1 := (k.eq u a i i hu ha).mp rfl
    have m2 := (k.eq u b i i hu hb).mp rfl
    rcases m1.1.cases_step with rfl | ⟨w, e1, r1⟩
    · exact ⟨b, e, m2.2⟩
    · exact ⟨w, e1, r1.trans (.step e m2.2)⟩

/-! ### all edges turned round -/
def Rev (g t : G) : Prop := t.length = g.length ∧ ∀ u v, E t v u ↔ (E g u v ∧ u < g.length ∧ v < g.length)
/-! ### what can be reached -/
theorem rc_sets {g : G} {S : Nat → Prop} (cl : ∀ u v, S u → E g u v → S v) {u v : Nat} (r : Rc g u v) (hu : S u) : S v := by
  induction r with
  | refl _ => exact hu
  | step e _ ih => exact ih (cl _ _ hu e)
/-! ### counting -/
def wsum (w : Nat → Nat) (l : List Nat) : Nat := (l.map w).foldr (· + ·) 0
theorem wsum_cons (w : Nat → Nat) (x : Nat) (l : List Nat) : wsum w (x :: l) = w x + wsum w l := rfl
theorem wsum_append (w : Nat → Nat) (l m : List Nat) : wsum w (l ++ m) = wsum w l + wsum w m := by
  induction l with
  | nil => simp [wsum]
  | cons x l ih => rw [List.cons_append, wsum_cons, wsum_cons, ih]; omega
def below (w : Nat → Nat) : Nat → Nat
  | 0 => 0
  | n + 1 => below w n + w n
theorem wsum_erase (w : Nat → Nat) (x : Nat) : ∀ {l : List Nat}, x ∈ l → wsum w l = w x + wsum w (l.erase x)
  | [], h => by cases h
  | y :: l, h => by
    by_cases e : y = x
    · subst e
      rw [List.erase_cons_head]; rfl
    · rw [List.erase_cons_tail (by simpa using e), wsum_cons, wsum_cons]
      rcases List.mem_cons.mp h with k | k
      · exact absurd k.symm e
      · rw [wsum_erase w x k]; omega
theorem wsum_le (w : Nat → Nat) : ∀ (n : Nat) {l : List Nat}, l.Nodup → (∀ x ∈ l, x < n) → wsum w l ≤ below w n
  | 0, l, _, h => by
    cases l with
    | nil => exact Nat.le_refl 0
    | cons x l => exact absurd (h x List.mem_cons_self) (Nat.not_lt_zero x)
  | n + 1, l, nd, h => by
    by_cases k : n ∈ l
    · rw [wsum_erase w n k]
      have := wsum_le w n (l := l.erase n) (nd.erase n) fun x hx => by
        have h1 := h x (List.mem_of_mem_erase hx)
        have h2 : x ≠ n := fun z => by
          rw [z] at hx
          exact (List.Nodup.mem_erase_iff nd).mp hx |>.1 rfl
        omega
      show _ ≤ below w n + w n
      omega
    · have := wsum_le w n nd fun x hx => by
        have h1 := h x hx
        have h2 : x ≠ n := fun z => k (z ▸ hx)
        omega
      show _ ≤ below w n + w n
      omega
def steps (g : G) (ord : List Nat) (stk : List (Nat × Nat)) : Nat := wsum (fun u => (row g u).length + 1) ord + wsum (·) (stk.map (·.2))
theorem steps_lt {g : G} {ord : List Nat} {stk : List (Nat × Nat)} {x : Nat × Nat} (h : Dfs g ord (x :: stk)) : steps g ord (x :: stk) < below (fun u => (row g u).length + 1) g.length := by
  have h1 := wsum_le (fun u => (row g u).length + 1) g.length h.nd h.lt
  rw [wsum_append] at h1
  have h2 : ∀ l : List (Nat × Nat), (∀ y ∈ l, y.2 ≤ (row g y.1).length) → wsum (·) (l.map (·.2)) + l.length ≤ wsum (fun u => (row g u).length + 1) (l.map (·.1)) := by
    intro l
    induction l with
    | nil => intro _; exact Nat.le_refl 0
    | cons y l ih =>
      intro hl
      have a := hl y List.mem_cons_self
      have b := ih fun z hz => hl z (List.mem_cons_of_mem _ hz)
      simp only [List.map_cons, wsum_cons, List.length_cons]
      omega
  have h3 := h2 (x :: stk) fun y hy => (h.fo y hy).1
  simp only [List.length_cons] at h3
  unfold steps
  omega
theorem steps_pop {g : G} {ord : List Nat} {n : Nat} {stk : List (Nat × Nat)} : steps g (ord ++ [n]) stk = steps g ord ((n, (row g n).length) :: stk) + 1 := by
  unfold steps
  rw [wsum_append]
  simp only [List.map_cons, wsum_cons]
  show _ + ((row g n).length + 1 + 0) + _ = _
  omega
theorem steps_skip {g : G} {ord : List Nat} {n f : Nat} {stk : List (Nat × Nat)} : steps g ord ((n, f + 1) :: stk) = steps g ord ((n, f) :: stk) + 1 := by
  unfold steps
  simp only [List.map_cons, wsum_cons]
  omega
theorem steps_push {g : G} {ord : List Nat} {n : Nat} {stk : List (Nat × Nat)} : steps g ord ((n, 0) :: stk) = steps g ord stk := by
  unfold steps
  simp only [List.map_cons, wsum_cons]
  omega
end Gr
namespace Bx
open PySem PySem.Spec PyProof.Rows L2
abbrev VN (n : Nat) : V := .int (n : Int)
def Sq (K : PySem.W.Frag) (H : Hp) (a : Addr) (xs : List V) : Prop := SqL K H a xs ∨ SqT K H a xs
theorem sqL_same {K : PySem.W.Frag} {H H' : Hp} {a : Addr} {xs : List V} (s : Same H H') (h : SqL K H a xs) : SqL K H' a xs := by
  rcases h with h | h
  · exact .inl (by
      rcases h with h | ⟨o, h⟩
      · exact .inl (s _ _ h)
      · exact .inr ⟨o, s _ _ h⟩)
  · exact .inr h
theorem sqT_same {K : PySem.W.Frag} {H H' : Hp} {a : Addr} {xs : List V} (s : Same H H') (h : SqT K H a xs) : SqT K H' a xs := by
  rcases h with h | h
  · exact .inl (by
      rcases h with h | ⟨o, h⟩
      · exact .inl (s _ _ h)
      · exact .inr ⟨o, s _ _ h⟩)
  · exact .inr h
theorem Sq.same {K : PySem.W.Frag} {H H' : Hp} {a : Addr} {xs : List V} (s : Same H H') (h : Sq K H a xs) : Sq K H' a xs := by
  rcases h with h | h
  · exact .inl (sqL_same s h)
  · exact .inr (sqT_same s h)
theorem nw {H H1 : Hp} {p : Addr} {o : HO} (hp : H p = none) (e : upd H p o = H1) : Same H H1 ∧ H1 p = some o := e ▸ ⟨same_new hp, upd_same⟩
theorem mw {H0 H H1 : Hp} {p : Addr} {o : HO} (s : Same H0 H) (hp : H0 p = none) (e : upd H p o = H1) : Same H0 H1 ∧ H1 p = some o ∧ ∀ q, q ≠ p → H1 q = H q := e ▸ ⟨fun b x hb => by
  rw [upd_ne (ne_of_none hb hp)]
  exact s _ _ hb, upd_same, fun q hq => upd_ne hq⟩
theorem mwt {H H1 : Hp} {p : Addr} {o : HO} {l : List V} (h : H p = some (.lst l)) (e : upd H p o = H1) : ∀ b xs, H b = some (.tup xs) → H1 b = some (.tup xs) := e ▸ fun b xs hb => by
  rw [upd_ne (fun z => by rw [z, h] at hb; cases hb)]
  exact hb
theorem Same.fr {H H' : Hp} {p : Addr} (s : Same H H') (h : H' p = none) : H p = none := by
  cases e : H p with
  | none => rfl
  | some o => rw [s _ _ e] at h; cases h
/-- a graph, by rows of lists or tuples -/
def GrAt (K : PySem.W.Frag) (H : Hp) (r : Addr) (g : Gr.G) : Prop := ∃ as : List Addr, Sq K H r (as.map V.ref) ∧ as.length = g.length ∧ ∀ i a, as[i]? = some a → Sq K H a ((Gr.row g i).map VN)
theorem GrAt.same {K : PySem.W.Frag} {H H' : Hp} {r : Addr} {g : Gr.G} (s : Same H H') (h : GrAt K H r g) : GrAt K H' r g := by
  obtain ⟨as, h1, h2, h3⟩ := h
  exact ⟨as, h1.same s, h2, fun i a e => (h3 i a e).same s⟩
theorem iteB_t {c : Bool} {A B : Prop} (e : c = true) (h : A) : if c = true then A else B := by rw [if_pos e]; exact h
theorem iteB_f {c : Bool} {A B : Prop} (e : c = false) (h : B) : if c = true then A else B := by rw [if_neg (by rw [e]; exact Bool.false_ne_true)]; exact h
theorem snocg {α : Type} {xs : List α} {x y : α} {j : Nat} (h : (xs ++ [x])[j]? = some y) : (j < xs.length ∧ xs[j]? = some y) ∨ (j = xs.length ∧ y = x) := by
  rcases Nat.lt_or_ge j xs.length with c | c
  · rw [List.getElem?_append_left c] at h
    exact .inl ⟨c, h⟩
  · rw [List.getElem?_append_right c] at h
    have e : j - xs.length = 0 := by
      cases e : j - xs.length with
      | zero => rfl
      | succ n => rw [e] at h; cases h
    rw [e] at h
    exact .inr ⟨by omega, (Option.some.inj h).symm⟩
theorem nats_get {xs : List Nat} {j : Nat} {y : V} (h : (xs.map VN)[j]? = some y) : ∃ t, xs[j]? = some t ∧ y = VN t := by
  rw [List.getElem?_map] at h
  cases e : xs[j]? with
  | none => rw [e] at h; cases h
  | some t => rw [e] at h; exact ⟨t, rfl, (Option.some.inj h).symm⟩
theorem refsg {as : List Addr} {i : Nat} {v : V} (h : (as.map V.ref)[i]? = some v) : ∃ a, as[i]? = some a ∧ v = .ref a := by
  rw [List.getElem?_map] at h
  cases e : as[i]? with
  | none => rw [e] at h; cases h
  | some z => rw [e] at h; exact ⟨z, rfl, (Option.some.inj h).symm⟩
theorem mapg {α β : Type} {f : α → β} {xs : List α} {i : Nat} {y : β} (h : (xs.map f)[i]? = some y) : ∃ x, xs[i]? = some x ∧ y = f x := by
  rw [List.getElem?_map] at h
  cases e : xs[i]? with
  | none => rw [e] at h; cases h
  | some z => rw [e] at h; exact ⟨z, rfl, (Option.some.inj h).symm⟩
/-- an item by its number, as atI wants it -/
theorem atN {α : Type} {f : α → V} {xs : List α} {i : Nat} {x : α} (h : xs[i]? = some x) : atI (xs.map f) (i : Int) = some (f x) := atI_nat (by rw [List.getElem?_map, h]; rfl)
theorem lt_of_get {α : Type} {xs : List α} {i : Nat} {x : α} (h : xs[i]? = some x) : i < xs.length := (List.getElem?_eq_some_iff.mp h).1
theorem nd_inj {α : Type} {xs : List α} (h : xs.Nodup) {i j : Nat} {x : α} (h1 : xs[i]? = some x) (h2 : xs[j]? = some x) : i = j := (List.getElem?_inj (lt_of_get h1) h).mp (h1.trans h2.symm)
theorem for_sqB {K : PySem.W.Frag} {i : Nat} {a : Addr} {xs : List V} {g : TG} {tb : TS} {D : Ends} {σ : L2.St} {H0 H : Hp} (hv : σ[i]? = some (some (.ref a))) (hq : SeqV H0 a xs) (Pv : Nat → L2.St → Hp → Prop) (h0 : Pv 0 σ H) (hS : ∀ i σ' H', Pv i σ' H' → Same H0 H')
    (hs : ∀ i x σ H, xs[i]? = some x → Pv i σ H → g x σ H fun σ2 H2 => tb { D with nx := Pv (i + 1), ct := Pv (i + 1), bk := D.nx } σ2 H2) (hd : ∀ σ H, Pv xs.length σ H → D.nx σ H) : tFor (iSeq K (tVar i)) g tb D σ H := by
  rcases hq with h | h
  · exact .inl ⟨_, hv, a, rfl, ⟨_, .of (hS 0 σ H h0 _ _ h)⟩, for_list Pv h0 (fun i σ' H' _ p => .of (hS i σ' H' p _ _ h)) hs hd⟩
  · exact .inr ⟨_, hv, a, rfl, ⟨_, .of (hS 0 σ H h0 _ _ h)⟩, for_tup Pv h0 (fun i σ' H' _ p => .of (hS i σ' H' p _ _ h)) hs hd⟩
/-- a dict comprehension over anything walked -/
theorem dc_it {J : It} {n : Nat} {G : Hp → Prop} {Y : Nat → Hp → V → Hp → Prop} (w : Walk J n G Y) {g : TG} {tt : TT} {tk tv : TE} {vs : List Nat} {σ : L2.St} {H1 : Hp} {D : Addr} {Qd : Hp → Prop} (Pv : Nat → Hp → Prop) (h0 : Pv 0 (upd H1 D (.dK []))) (hG : ∀ i H, i ≤ n → Pv i H → G H)
    (hs : ∀ i x H H', i < n → Pv i H → Y i H x H' → g x (wipe σ vs) H' fun σ2 H2 => wipe σ2 vs = wipe σ vs ∧ tt σ2 H2 fun b H3 =>
      if b = true then tk σ2 H3 fun y H4 => tv σ2 H4 fun z H5 => ∃ kvs k, y = kV k ∧ H5 D = some (.dK kvs) ∧ kvs.length < sizeLine ∧ Pv (i + 1) (upd H5 D (.dK (putK kvs k z))) else Pv (i + 1) H3) (hd : ∀ H, Pv n H → Qd H) :
    ∃ W : Nat → Nat → Hp → Prop, (∃ m, W 0 m (upd H1 D (.dK []))) ∧ ∀ i m H, W i m H →
      (J.stop i H ∧ Qd H) ∨ (J.go i H ∧ ∃ Nx : Hp → Prop, (∀ H', Nx H' → ∃ m', m' < m ∧ W (i + 1) m' H') ∧ ∀ x H', J.yld i H x H' → g x (wipe σ vs) H' fun σ2 H2 => wipe σ2 vs = wipe σ vs ∧ tt σ2 H2 fun b H3 =>
        if b = true then tk σ2 H3 fun y H4 => tv σ2 H4 fun z H5 => ∃ kvs k, y = kV k ∧ H5 D = some (.dK kvs) ∧ kvs.length < sizeLine ∧ Nx (upd H5 D (.dK (putK kvs k z))) else Nx H3) := by
  refine ⟨fun i m H => m = n - i ∧ i ≤ n ∧ Pv i H, ⟨n, by simp, Nat.zero_le _, h0⟩, ?_⟩
  rintro i m H ⟨rfl, hi, p⟩
  have q := hG i H hi p
  by_cases hlt : i < n
  · refine .inr ⟨w.goes i H hlt q, Pv (i + 1), fun H' p' => ⟨n - (i + 1), by omega, rfl, hlt, p'⟩, fun x H' y => hs i x H H' hlt p (w.yields i H x H' hlt q y)⟩
  · have e : i = n := by omega
    subst e
    exact .inl ⟨w.stops H q, hd H p⟩
/-- the numbers of the nodes of a list, as a dict -/
def numK (us : List Nat) : List (L2.Key × V) := us.zipIdx.map fun p => (Sum.inl (p.1 : Int), VN p.2)
theorem numK_len (us : List Nat) : (numK us).length = us.length := by unfold numK; rw [List.length_map, List.length_zipIdx]
theorem numK_snoc (us : List Nat) (u : Nat) : numK (us ++ [u]) = numK us ++ [(Sum.inl (u : Int), VN us.length)] := by
  unfold numK
  rw [List.zipIdx_append, List.map_append]
  simp
theorem numK_put {us : List Nat} {u : Nat} (h : u ∉ us) : putK (numK us) (Sum.inl (u : Int)) (VN us.length) = numK (us ++ [u]) := by
  rw [numK_snoc]
  unfold putK
  rw [if_neg ?_]
  intro z
  rw [List.any_eq_true] at z
  obtain ⟨kv, hm, e⟩ := z
  have e := of_decide_eq_true e
  unfold numK at hm
  obtain ⟨p, hp, rfl⟩ := List.mem_map.mp hm
  have e2 : (p.1 : Int) = (u : Int) := Sum.inl.inj e
  have := List.mem_zipIdx' hp
  exact h (by have h3 : p.1 = u := by omega
              rw [← h3]
              exact this.2 ▸ List.getElem_mem _)
theorem numK_valF (z : Int) : ∀ (us : List Nat) (k : Nat), ((us.zipIdx k).map fun p => ((Sum.inl (p.1 : Int) : L2.Key), VN p.2)).find? (fun kv => decide (kv.1 = (Sum.inl z : L2.Key))) = if (z.toNat ∈ us ∧ 0 ≤ z) then some (Sum.inl z, VN (us.idxOf z.toNat + k)) else none
  | [], k => by simp
  | u :: us, k => by
    rw [List.zipIdx_cons, List.map_cons, List.find?_cons]
    by_cases e : (u : Int) = z
    · have hz : z.toNat = u := by omega
      rw [decide_eq_true (by show (Sum.inl (u : Int) : L2.Key) = Sum.inl z; rw [e]), if_pos ⟨by rw [hz]; exact List.mem_cons_self, by omega⟩, hz, List.idxOf_cons_self, Nat.zero_add]
      show some ((Sum.inl (u : Int) : L2.Key), VN k) = _
      rw [e]
    · rw [decide_eq_false (by intro h; exact e (Sum.inl.inj h)), numK_valF z us (k + 1)]
      by_cases h0 : 0 ≤ z
      · have hne : u ≠ z.toNat := by omega
        have hiff : (z.toNat ∈ u :: us ∧ 0 ≤ z) ↔ (z.toNat ∈ us ∧ 0 ≤ z) := by simp [hne.symm]
        simp only [hiff]
        split
        · have e2 : (u :: us).idxOf z.toNat + k = us.idxOf z.toNat + (k + 1) := by
            rw [List.idxOf_cons, show (u == z.toNat) = false by simpa using hne]
            show us.idxOf z.toNat + 1 + k = _
            omega
          rw [e2]
        · rfl
      · rw [if_neg (fun q => h0 q.2), if_neg (fun q => h0 q.2)]
theorem numK_val (us : List Nat) (z : Int) : valV (numK us) (Sum.inl z : L2.Key) = if (z.toNat ∈ us ∧ 0 ≤ z) then some (VN (us.idxOf z.toNat)) else none := by
  unfold valV numK
  have := numK_valF z us 0
  rw [show us.zipIdx = us.zipIdx 0 from rfl, this]
  split <;> rfl
end Bx
/-! What `lives` says: a node lives exactly if an infinite path from it visits good nodes again and again. -/
namespace Lv
section
variable (mv : Nat → List Int) (goods : Nat → Bool) (n : Nat)
def hit (kept reach : Nat → Bool) (ts : List Int) : Bool := ts.any fun t => kept t.toNat && (goods t.toNat || reach t.toNat)
def stp (kept : Nat → Bool) (k : Nat) (p : (Nat → Bool) × Bool) : (Nat → Bool) × Bool :=
  if (kept k && !p.1 k && hit goods kept p.1 (mv k)) = true then (fun t => if t = k then true else p.1 t, true) else p
def pas (kept : Nat → Bool) : Nat → (Nat → Bool) × Bool → (Nat → Bool) × Bool
  | 0, p => p
  | j + 1, p => stp mv goods kept (n - 1 - j) (pas kept j p)
def inn (kept : Nat → Bool) : Nat → (Nat → Bool) → Nat → Bool
  | 0, r => r
  | f + 1, r => if (pas mv goods n kept n (r, false)).2 = true then inn kept f (pas mv goods n kept n (r, false)).1 else (pas mv goods n kept n (r, false)).1
def eqB (r k : Nat → Bool) : Bool := decide (∀ t, t < n → r t = k t)
def out : Nat → (Nat → Bool) → Nat → Bool
  | 0, k => k
  | f + 1, k => if eqB n (inn mv goods n k (n + 1) fun _ => false) k = true then k else out f (inn mv goods n k (n + 1) fun _ => false)
def lives (ss : List Int) : Bool := ss.any fun s => out mv goods n (n + 1) (fun _ => true) s.toNat
end

/-! counting -/
def cnt (f : Nat → Bool) : Nat → Nat
  | 0 => 0
  | n + 1 => cnt f n + (if f n = true then 1 else 0)
theorem cnt_le (f : Nat → Bool) : ∀ n, cnt f n ≤ n
  | 0 => Nat.le_refl 0
  | n + 1 => by
    have := cnt_le f n
    unfold cnt
    split <;> omega
theorem cnt_mono {f g : Nat → Bool} : ∀ n, (∀ t, t < n → f t = true → g t = true) → cnt f n ≤ cnt g n
  | 0, _ => Nat.le_refl 0
  | n + 1, h => by
    have := cnt_mono n fun t ht => h t (by omega)
    unfold cnt
    by_cases a : f n = true
    · rw [if_pos a, if_pos (h n (by omega) a)]
      omega
    · rw [if_neg a]
      omega
theorem cnt_lt {f g : Nat → Bool} : ∀ n, (∀ t, t < n → f t = true → g t = true) → (∃ t, t < n ∧ g t = true ∧ f t = false) → cnt f n < cnt g n
  | 0, _, ⟨t, ht, _⟩ => absurd ht (Nat.not_lt_zero t)
  | n + 1, h, ⟨t, ht, gt, ft⟩ => by
    unfold cnt
    rcases Nat.lt_or_ge t n with y | y
    · have := cnt_lt n (fun t ht => h t (by omega)) ⟨t, y, gt, ft⟩
      by_cases a : f n = true
      · rw [if_pos a, if_pos (h n (by omega) a)]
        omega
      · rw [if_neg a]
        omega
    · have e : t = n := by omega
      subst e
      have := cnt_mono t fun s hs => h s (by omega)
      rw [gt, ft, if_pos rfl, if_neg (by decide)]
      omega
theorem cnt_all (n : Nat) : cnt (fun _ => true) n = n := by
  induction n with
  | zero => rfl
  | succ n ih =>
    unfold cnt
    rw [ih, if_pos rfl]
section
variable {mv : Nat → List Int} {goods : Nat → Bool} {n : Nat}
theorem hit_iff {kept reach : Nat → Bool} {ts : List Int} : hit goods kept reach ts = true ↔ ∃ t ∈ ts, kept t.toNat = true ∧ (goods t.toNat = true ∨ reach t.toNat = true) := by
  unfold hit
  rw [List.any_eq_true]
  constructor
  · rintro ⟨t, ht, h⟩
    rw [Bool.and_eq_true_iff, Bool.or_eq_true_iff] at h
    exact ⟨t, ht, h⟩
  · rintro ⟨t, ht, h⟩
    refine ⟨t, ht, ?_⟩
    rw [Bool.and_eq_true_iff, Bool.or_eq_true_iff]
    exact h
/-- the condition under which a step fires -/
def Fire (mv : Nat → List Int) (goods kept reach : Nat → Bool) (k : Nat) : Prop := kept k = true ∧ reach k = false ∧ hit goods kept reach (mv k) = true
theorem stp_cases (kept : Nat → Bool) (k : Nat) (p : (Nat → Bool) × Bool) : (Fire mv goods kept p.1 k ∧ stp mv goods kept k p = (fun t => if t = k then true else p.1 t, true)) ∨ (¬ Fire mv goods kept p.1 k ∧ stp mv goods kept k p = p) := by
  unfold stp Fire
  by_cases c : (kept k && !p.1 k && hit goods kept p.1 (mv k)) = true
  · left
    rw [if_pos c]
    simp only [Bool.and_eq_true, Bool.not_eq_true'] at c
    exact ⟨⟨c.1.1, c.1.2, c.2⟩, rfl⟩
  · right
    rw [if_neg c]
    refine ⟨fun ⟨a, b, d⟩ => c ?_, rfl⟩
    rw [a, b, d]
    rfl
theorem pas_mono (kept : Nat → Bool) (p : (Nat → Bool) × Bool) : ∀ j t, p.1 t = true → (pas mv goods n kept j p).1 t = true
  | 0, _, h => h
  | j + 1, t, h => by
    have ih := pas_mono kept p j t h
    unfold pas
    rcases stp_cases (mv := mv) (goods := goods) kept (n - 1 - j) (pas mv goods n kept j p) with ⟨_, e⟩ | ⟨_, e⟩
    · rw [e]
      show (if t = n - 1 - j then true else _) = true
      split
      · rfl
      · exact ih
    · rw [e]
      exact ih
theorem pas_quiet (kept : Nat → Bool) (p : (Nat → Bool) × Bool) : ∀ j, (pas mv goods n kept j p).2 = false → pas mv goods n kept j p = p ∧ ∀ i, i < j → ¬ Fire mv goods kept p.1 (n - 1 - i)
  | 0, _ => ⟨rfl, fun i h => absurd h (Nat.not_lt_zero i)⟩
  | j + 1, h => by
    unfold pas at h ⊢
    rcases stp_cases (mv := mv) (goods := goods) kept (n - 1 - j) (pas mv goods n kept j p) with ⟨_, e⟩ | ⟨nf, e⟩
    · rw [e] at h
      cases h
    · rw [e] at h ⊢
      obtain ⟨h1, h2⟩ := pas_quiet kept p j h
      refine ⟨h1, fun i hi => ?_⟩
      rcases Nat.lt_or_ge i j with y | y
      · exact h2 i y
      · have : i = j := by omega
        rw [this, ← h1]
        exact nf
theorem pas_grow (kept r : Nat → Bool) : ∀ j, j ≤ n → (pas mv goods n kept j (r, false)).2 = true → ∃ t, t < n ∧ (pas mv goods n kept j (r, false)).1 t = true ∧ r t = false
  | 0, _, h => by cases h
  | j + 1, hj, h => by
    unfold pas at h ⊢
    rcases stp_cases (mv := mv) (goods := goods) kept (n - 1 - j) (pas mv goods n kept j (r, false)) with ⟨f, e⟩ | ⟨nf, e⟩
    · rw [e]
      refine ⟨n - 1 - j, by omega, if_pos rfl, ?_⟩
      cases hr : r (n - 1 - j) with
      | false => rfl
      | true =>
        have := pas_mono (mv := mv) (goods := goods) (n := n) kept (r, false) j (n - 1 - j) hr
        rw [f.2.1] at this
        cases this
    · rw [e] at h ⊢
      exact pas_grow kept r j (by omega) h
/-- from k a good kept node can be reached through kept nodes, in m + 1 steps -/
def Rch (mv : Nat → List Int) (goods kept : Nat → Bool) : Nat → Nat → Prop
  | 0, k => ∃ t ∈ mv k, kept t.toNat = true ∧ goods t.toNat = true
  | m + 1, k => ∃ t ∈ mv k, kept t.toNat = true ∧ Rch mv goods kept m t.toNat
def Snd (mv : Nat → List Int) (goods kept : Nat → Bool) (r : Nat → Bool) : Prop := ∀ t, r t = true → kept t = true ∧ ∃ m, Rch mv goods kept m t
theorem stp_snd {kept : Nat → Bool} {k : Nat} {p : (Nat → Bool) × Bool} (h : Snd mv goods kept p.1) : Snd mv goods kept (stp mv goods kept k p).1 := by
  rcases stp_cases (mv := mv) (goods := goods) kept k p with ⟨f, e⟩ | ⟨_, e⟩
  · rw [e]
    intro t ht
    have ht : (if t = k then true else p.1 t) = true := ht
    by_cases y : t = k
    · subst y
      refine ⟨f.1, ?_⟩
      obtain ⟨t', h1, h2, h3⟩ := hit_iff.mp f.2.2
      rcases h3 with g | g
      · exact ⟨0, t', h1, h2, g⟩
      · obtain ⟨_, m, hm⟩ := h _ g
        exact ⟨m + 1, t', h1, h2, hm⟩
    · rw [if_neg y] at ht
      exact h t ht
  · rw [e]
    exact h
theorem pas_snd {kept : Nat → Bool} {p : (Nat → Bool) × Bool} (h : Snd mv goods kept p.1) : ∀ j, Snd mv goods kept (pas mv goods n kept j p).1
  | 0 => h
  | j + 1 => stp_snd (pas_snd h j)
def Clo (mv : Nat → List Int) (goods kept : Nat → Bool) (n : Nat) (r : Nat → Bool) : Prop := ∀ k, k < n → kept k = true → hit goods kept r (mv k) = true → r k = true
theorem inn_snd {kept : Nat → Bool} : ∀ f r, Snd mv goods kept r → Snd mv goods kept (inn mv goods n kept f r)
  | 0, r, h => h
  | f + 1, r, h => by
    unfold inn
    have h1 := pas_snd (n := n) (p := (r, false)) h n
    split
    · exact inn_snd f _ h1
    · exact h1
theorem inn_clo {kept : Nat → Bool} : ∀ f r, n < cnt r n + f → Clo mv goods kept n (inn mv goods n kept f r)
  | 0, r, h => by have := cnt_le r n; omega
  | f + 1, r, h => by
    unfold inn
    split
    · rename_i c
      refine inn_clo f _ ?_
      have := cnt_lt n (f := r) (g := (pas mv goods n kept n (r, false)).1) (fun t _ ht => pas_mono kept (r, false) n t ht) (pas_grow kept r n (Nat.le_refl n) c)
      omega
    · rename_i c
      obtain ⟨h1, h2⟩ := pas_quiet (mv := mv) (goods := goods) (n := n) kept (r, false) n (Bool.eq_false_iff.mpr c)
      rw [h1]
      intro k hk hkk hh
      cases hr : r k with
      | true => exact hr
      | false =>
        have := h2 (n - 1 - k) (by omega)
        rw [show n - 1 - (n - 1 - k) = k by omega] at this
        exact absurd ⟨hkk, hr, hh⟩ this
theorem out_fix : ∀ f k, cnt k n < f → ∀ t, t < n → inn mv goods n (out mv goods n f k) (n + 1) (fun _ => false) t = out mv goods n f k t
  | 0, k, h => absurd h (Nat.not_lt_zero _)
  | f + 1, k, h => by
    unfold out
    split
    · rename_i c
      intro t ht
      exact of_decide_eq_true c t ht
    · rename_i c
      refine out_fix f _ ?_
      have hs := inn_snd (mv := mv) (goods := goods) (n := n) (kept := k) (n + 1) (fun _ => false) (fun t ht => by cases ht)
      have := cnt_lt n (f := inn mv goods n k (n + 1) fun _ => false) (g := k) (fun t _ ht => (hs t ht).1) ?_
      · omega
      · refine Classical.byContradiction fun hno => c (decide_eq_true fun t ht => ?_)
        cases ha : inn mv goods n k (n + 1) (fun _ => false) t with
        | true => exact (hs t ha).1.symm
        | false =>
          cases hb : k t with
          | false => rfl
          | true => exact absurd ⟨t, ht, hb, ha⟩ hno
/-- an infinite path that visits good nodes again and again -/
def Path (mv : Nat → List Int) (goods : Nat → Bool) (s : Nat) : Prop := ∃ π : Nat → Nat, π 0 = s ∧ (∀ i, ((π (i + 1) : Nat) : Int) ∈ mv (π i)) ∧ ∀ i, ∃ j, i < j ∧ goods (π j) = true
/-- all targets are nodes -/
def Bnd (mv : Nat → List Int) (n : Nat) : Prop := ∀ k, k < n → ∀ t ∈ mv k, 0 ≤ t ∧ t < (n : Int)
theorem path_of {K : Nat → Bool} (hb : Bnd mv n) (hK : ∀ k, k < n → K k = true → ∃ m, Rch mv goods K m k) {s : Nat} (hs : s < n) (ks : K s = true) : Path mv goods s := by
  have next : ∀ p : {p : Nat × Nat // p.1 < n ∧ K p.1 = true ∧ Rch mv goods K p.2 p.1}, ∃ q : {p : Nat × Nat // p.1 < n ∧ K p.1 = true ∧ Rch mv goods K p.2 p.1}, ((q.1.1 : Nat) : Int) ∈ mv p.1.1 ∧ (p.1.2 = 0 → goods q.1.1 = true) ∧ ∀ m, p.1.2 = m + 1 → q.1.2 = m := by
    rintro ⟨⟨k, m⟩, hk, hkk, hr⟩
    cases m with
    | zero =>
      obtain ⟨t, ht, kt, gt⟩ := hr
      obtain ⟨t0, t1⟩ := hb k hk t ht
      obtain ⟨m', hm'⟩ := hK t.toNat (by omega) kt
      refine ⟨⟨⟨t.toNat, m'⟩, by show t.toNat < n; omega, kt, hm'⟩, ?_, fun _ => gt, fun m h => by cases h⟩
      show ((t.toNat : Nat) : Int) ∈ mv k
      rw [show ((t.toNat : Nat) : Int) = t by omega]
      exact ht
    | succ m =>
      obtain ⟨t, ht, kt, rt⟩ := hr
      obtain ⟨t0, t1⟩ := hb k hk t ht
      refine ⟨⟨⟨t.toNat, m⟩, by show t.toNat < n; omega, kt, rt⟩, ?_, (fun h => by cases h), fun m' h => (Nat.succ.inj h : m = m')⟩
      show ((t.toNat : Nat) : Int) ∈ mv k
      rw [show ((t.toNat : Nat) : Int) = t by omega]
      exact ht
  obtain ⟨m, hm⟩ := hK s hs ks
  let σ : Nat → {p : Nat × Nat // p.1 < n ∧ K p.1 = true ∧ Rch mv goods K p.2 p.1} := fun i => Nat.rec ⟨⟨s, m⟩, hs, ks, hm⟩ (fun _ p => Classical.choose (next p)) i
  have hσ : ∀ i, ((((σ (i + 1)).1.1 : Nat) : Int) ∈ mv (σ i).1.1) ∧ ((σ i).1.2 = 0 → goods (σ (i + 1)).1.1 = true) ∧ ∀ m, (σ i).1.2 = m + 1 → (σ (i + 1)).1.2 = m := fun i => Classical.choose_spec (next (σ i))
  refine ⟨fun i => (σ i).1.1, rfl, fun i => (hσ i).1, fun i => ?_⟩
  have key : ∀ m i, (σ i).1.2 = m → ∃ j, i < j ∧ goods (σ j).1.1 = true := by
    intro m
    induction m with
    | zero => exact fun i h => ⟨i + 1, by omega, (hσ i).2.1 h⟩
    | succ m ih =>
      intro i h
      obtain ⟨j, hj, hg⟩ := ih (i + 1) ((hσ i).2.2 m h)
      exact ⟨j, by omega, hg⟩
  exact key _ i rfl
theorem path_lt (hb : Bnd mv n) {π : Nat → Nat} (h0 : π 0 < n) (hπ : ∀ i, ((π (i + 1) : Nat) : Int) ∈ mv (π i)) : ∀ i, π i < n
  | 0 => h0
  | i + 1 => by
    have := hb (π i) (path_lt hb h0 hπ i) _ (hπ i)
    omega
theorem out_path (hb : Bnd mv n) {π : Nat → Nat} (h0 : π 0 < n) (hπ : ∀ i, ((π (i + 1) : Nat) : Int) ∈ mv (π i)) (hg : ∀ i, ∃ j, i < j ∧ goods (π j) = true) : ∀ f k, (∀ i, k (π i) = true) → ∀ i, out mv goods n f k (π i) = true
  | 0, k, h => h
  | f + 1, k, h => by
    unfold out
    split
    · exact h
    · refine out_path hb h0 hπ hg f _ fun i => ?_
      have hc := inn_clo (mv := mv) (goods := goods) (n := n) (kept := k) (n + 1) (fun _ => false) (by omega)
      have hlt := path_lt hb h0 hπ
      have key : ∀ d i, goods (π (i + d + 1)) = true → inn mv goods n k (n + 1) (fun _ => false) (π i) = true := by
        intro d
        induction d with
        | zero =>
          intro i hgi
          refine hc (π i) (hlt i) (h i) (hit_iff.mpr ⟨_, hπ i, ?_, .inl ?_⟩)
          · rw [Int.toNat_natCast]; exact h _
          · rw [Int.toNat_natCast]; exact hgi
        | succ d ih =>
          intro i hgi
          refine hc (π i) (hlt i) (h i) (hit_iff.mpr ⟨_, hπ i, ?_, .inr ?_⟩)
          · rw [Int.toNat_natCast]; exact h _
          · rw [Int.toNat_natCast]
            exact ih (i + 1) (by rw [show i + 1 + d + 1 = i + (d + 1) + 1 by omega]; exact hgi)
      obtain ⟨j, hj, hgj⟩ := hg i
      exact key (j - i - 1) i (by rw [show i + (j - i - 1) + 1 = j by omega]; exact hgj)
/-- `lives` is true exactly if an infinite path from one of the starts visits good nodes again and again -/
theorem lives_iff (hb : Bnd mv n) {ss : List Int} (hs : ∀ s ∈ ss, 0 ≤ s ∧ s < (n : Int)) : lives mv goods n ss = true ↔ ∃ s ∈ ss, Path mv goods s.toNat := by
  unfold lives
  rw [List.any_eq_true]
  constructor
  · rintro ⟨s, h1, h2⟩
    have hr := hs s h1
    have hf := out_fix (mv := mv) (goods := goods) (n := n) (n + 1) (fun _ => true) (by rw [cnt_all]; omega)
    refine ⟨s, h1, path_of (K := out mv goods n (n + 1) fun _ => true) hb (fun k hk hkk => ?_) (by omega) h2⟩
    rw [← hf k hk] at hkk
    exact (inn_snd (mv := mv) (goods := goods) (n := n) (n + 1) (fun _ => false) (fun t ht => by cases ht) k hkk).2
  · rintro ⟨s, h1, π, p0, p1, p2⟩
    have hr := hs s h1
    refine ⟨s, h1, ?_⟩
    have := out_path hb (π := π) (by rw [p0]; omega) p1 p2 (n + 1) (fun _ => true) (fun _ => rfl) 0
    rw [p0] at this
    exact this
end
end Lv
namespace Lv
open Gr
theorem nd_le {l : List Nat} {n : Nat} (nd : l.Nodup) (lt : ∀ x ∈ l, x < n) : l.length ≤ n := by
  have h := wsum_le (fun _ => 1) n nd lt
  have h1 : ∀ l : List Nat, wsum (fun _ => 1) l = l.length := by
    intro l
    induction l with
    | nil => rfl
    | cons x l ih => rw [wsum_cons, ih, List.length_cons]; omega
  have h2 : ∀ n, below (fun _ => 1) n = n := by
    intro n
    induction n with
    | zero => rfl
    | succ n ih => show below _ n + 1 = _; rw [ih]
  rw [h1, h2] at h
  exact h
theorem pigeon {n : Nat} {f : Nat → Nat} (h : ∀ k, k ≤ n → f k < n) : ∃ i j, i < j ∧ j ≤ n ∧ f i = f j := by
  refine Classical.byContradiction fun hno => ?_
  have nd : ((List.range (n + 1)).map f).Nodup := by
    rw [List.nodup_iff_pairwise_ne, List.pairwise_map]
    refine List.Pairwise.imp_of_mem (R := (· < ·)) (fun {a b} ha hb hab e => hno ⟨a, b, hab, ?_, e⟩) List.pairwise_lt_range
    have := List.mem_range.mp hb
    omega
  have := nd_le nd fun x hx => by
    obtain ⟨k, hk, rfl⟩ := List.mem_map.mp hx
    exact h k (by have := List.mem_range.mp hk; omega)
  rw [List.length_map, List.length_range] at this
  omega
theorem rc_path {g : G} {π : Nat → Nat} (hπ : ∀ i, E g (π i) (π (i + 1))) (i : Nat) : ∀ d, Rc g (π i) (π (i + d))
  | 0 => .refl _
  | d + 1 => (rc_path hπ i d).snoc (hπ (i + d))
theorem path_cyc {g : G} {goods : Nat → Bool} {n : Nat} {π : Nat → Nat} (hlt : ∀ i, π i < n) (hπ : ∀ i, E g (π i) (π (i + 1))) (hg : ∀ i, ∃ j, i < j ∧ goods (π j) = true) : ∃ a, goods a = true ∧ Rc g (π 0) a ∧ Cyc g a := by
  let t : Nat → Nat := fun k => Nat.rec (Classical.choose (hg 0)) (fun _ p => Classical.choose (hg p)) k
  have ht : ∀ k, t k < t (k + 1) ∧ goods (π (t (k + 1))) = true := fun k => Classical.choose_spec (hg (t k))
  have hmono : ∀ i d, t i < t (i + d + 1) := by
    intro i d
    induction d with
    | zero => exact (ht i).1
    | succ d ih => exact Nat.lt_trans ih (ht (i + d + 1)).1
  obtain ⟨i, j, hij, _, e⟩ := pigeon (n := n) (f := fun k => π (t (k + 1))) fun k _ => hlt _
  have h1 : t (i + 1) < t (j + 1) := by
    have := hmono (i + 1) (j - i - 1)
    rwa [show i + 1 + (j - i - 1) + 1 = j + 1 by omega] at this
  refine ⟨π (t (i + 1)), (ht i).2, ?_, π (t (i + 1) + 1), hπ _, ?_⟩
  · have := rc_path hπ 0 (t (i + 1))
    rwa [Nat.zero_add] at this
  · have h2 := rc_path hπ (t (i + 1) + 1) (t (j + 1) - (t (i + 1) + 1))
    rw [show t (i + 1) + 1 + (t (j + 1) - (t (i + 1) + 1)) = t (j + 1) by omega] at h2
    have e : π (t (i + 1)) = π (t (j + 1)) := e
    rw [e]
    rw [← e] at h2 ⊢
    exact h2
theorem cyc_path {g : G} {mv : Nat → List Int} {goods : Nat → Bool} {n : Nat} (hE : ∀ u v, u < n → (E g u v ↔ (v : Int) ∈ mv u)) (hb : Bnd mv n) {s a : Nat} (hs : s < n) (ha : goods a = true) (r : Rc g s a) (hc : Cyc g a) : Path mv goods s := by
  have ok : ∀ u v, u < n → E g u v → v < n := fun u v hu e => by
    have := hb u hu _ ((hE u v hu).mp e)
    omega
  have step : ∀ v b, Rc g v b → b = a → ∀ u, u < n → E g u v → ∃ m, Rch mv goods (fun u => @decide (Rc g u a) (Classical.propDecidable _)) m u := by
    intro v b r
    induction r with
    | refl v =>
      rintro rfl u hu e
      refine ⟨0, (v : Int), (hE u v hu).mp e, ?_, ?_⟩
      · rw [Int.toNat_natCast]; exact @decide_eq_true _ (Classical.propDecidable _) (Rc.refl v)
      · rw [Int.toNat_natCast]; exact ha
    | @step v w b e2 r5 ih =>
      rintro rfl u hu e
      obtain ⟨m, hm⟩ := ih rfl v (ok u v hu e) e2
      refine ⟨m + 1, (v : Int), (hE u v hu).mp e, ?_, ?_⟩
      · rw [Int.toNat_natCast]; exact @decide_eq_true _ (Classical.propDecidable _) (Rc.step e2 r5)
      · rw [Int.toNat_natCast]; exact hm
  refine path_of (K := fun u => @decide (Rc g u a) (Classical.propDecidable _)) hb (fun k hk hkk => ?_) hs (@decide_eq_true _ (Classical.propDecidable _) r)
  have rk := @of_decide_eq_true _ (Classical.propDecidable _) hkk
  rcases rk.cases_step with rfl | ⟨w, e, r2⟩
  · obtain ⟨v, e, r2⟩ := hc
    exact step v _ r2 rfl _ hk e
  · exact step w _ r2 rfl _ hk e
theorem lives_cyc {g : G} {mv : Nat → List Int} {goods : Nat → Bool} {n : Nat} (hE : ∀ u v, u < n → (E g u v ↔ (v : Int) ∈ mv u)) (hb : Bnd mv n) {ss : List Int} (hs : ∀ s ∈ ss, 0 ≤ s ∧ s < (n : Int)) : lives mv goods n ss = true ↔ ∃ s ∈ ss, ∃ a, goods a = true ∧ Rc g s.toNat a ∧ Cyc g a := by
  rw [lives_iff hb hs]
  constructor
  · rintro ⟨s, h1, π, p0, p1, p2⟩
    have hr := hs s h1
    have hlt := path_lt hb (π := π) (by rw [p0]; omega) p1
    obtain ⟨a, h2, h3, h4⟩ := path_cyc (g := g) hlt (fun i => (hE _ _ (hlt i)).mpr (p1 i)) p2
    rw [p0] at h3
    exact ⟨s, h1, a, h2, h3, h4⟩
  · rintro ⟨s, h1, a, h2, h3, h4⟩
    have hr := hs s h1
    exact ⟨s, h1, cyc_path hE hb (by omega) h2 h3 h4⟩
end Lv
/-! own rule: enumerate of a tuple -/
namespace Bx
open PySem PySem.Spec PyProof.Rows L2
open AutoSeq1 (wpAny_loadPart')
theorem meets_enumerate_newT (l : Addr) (items : Array Value) (n : Nat) (dct : Option Addr) (sl : Array (Option Value)) :
    Meets (Builtin.«enumerate.__new__» ⟨[.type "enumerate", .ref l], []⟩) (fun _ R s => s.heap.get? l = some { cls := .type "tuple", dict := dct, data := .seq items n, slots := sl } ∧
      R (.ok (.ret (.ref (s.heap.push { cls := .type "tuple_iterator", data := .fields #[.ref l, .int 0 0] }).objs.size)))
        { s with heap := (s.heap.push { cls := .type "tuple_iterator", data := .fields #[.ref l, .int 0 0] }).push { cls := .type "enumerate", data := .fields #[.none, .bool false, .ref s.heap.objs.size, rawInt 0, .none, .none] } }) :=
  .of_wp fun prog w A R s h => by
    obtain ⟨hp, g, d, tk, os⟩ := s; obtain ⟨hl, h⟩ := h
    have hsub := sub_enumerate
    have hL : Heap.IsTuple (Shared.heap ⟨hp, g, d, tk, os⟩) l items := ⟨_, hl, rfl, n, rfl⟩
    wp_walk using wpAny_loadPart' hl
    refine wpAny_stack_any fun st => wpAny_pure ?_
    split
    · rename_i c _ _ _ _ _
      cases (c == Value.type "enumerate")
      · wp_walk using wpAny_loadPart' hl, wpAny_pyIter_tuple hL
        exact ⟨_, rfl, h⟩
      · wp_walk using wpAny_loadPart' hl, wpAny_pyIter_tuple hL
        exact ⟨_, rfl, h⟩
    · wp_walk using wpAny_loadPart' hl, wpAny_pyIter_tuple hL
      exact ⟨_, rfl, h⟩
theorem call_enumerate_tuple {prog : Program} {w : World} {A : Around} {E : Value → Shared → Prop} {s : Shared} {l : Addr} {items : Array Value} {Q : Value → Shared → Prop} (hL : s.heap.IsTuple l items)
    (h : ∀ h', IsEnum h' (s.heap.objs.size + 1) s.heap.objs.size 0 .none → h'.IsTupleIter s.heap.objs.size l 0 → h'.objs.size = s.heap.objs.size + 2 →
      (∀ b o, s.heap.get? b = some o → h'.get? b = some o) → Q (.ref (s.heap.objs.size + 1)) { s with heap := h' }) :
    wpAny (model prog w) A (call (.type "enumerate") [.ref l]) Q E s := by
  obtain ⟨⟨c, dct, dt, sl⟩, hl, hc, n, hd⟩ := hL
  replace hc : c = .type "tuple" := hc
  replace hd : dt = .seq items n := hd
  subst hc hd
  refine callType_new F.called_enumerate (by decide) (F.typeCall_enumerate_1 _) (F.newCall_enumerate_1 _) (fun obj => F.args_object_init_2 obj _) F.entry_enumerate_new
    (meets_enumerate_newT l items n dct sl) ⟨hl, ?_⟩
  have hz : (s.heap.push { cls := .type "tuple_iterator", data := .fields #[.ref l, .int 0 0] }).objs.size = s.heap.objs.size + 1 := Heap.size_push ..
  show _ ∧ _
  rw [hz]
  have he : IsEnum ((s.heap.push { cls := .type "tuple_iterator", data := .fields #[.ref l, .int 0 0] }).push
      { cls := .type "enumerate", data := .fields #[.none, .bool false, .ref s.heap.objs.size, rawInt 0, .none, .none] }) (s.heap.objs.size + 1) s.heap.objs.size 0 .none := by
    have := Heap.get?_push_size (s.heap.push { cls := .type "tuple_iterator", data := .fields #[.ref l, .int 0 0] })
      (o := { cls := .type "enumerate", data := .fields #[.none, .bool false, .ref s.heap.objs.size, rawInt 0, .none, .none] }) rfl
    rw [hz] at this; exact this
  refine ⟨⟨_, he, rfl⟩, h _ he ⟨_, Heap.get?_push_of_some _ (Heap.get?_push_size _ rfl), rfl, rfl⟩ (by rw [Heap.size_push, hz]) fun b o x => Heap.get?_push_of_some _ (Heap.get?_push_of_some _ x)⟩
/-- the tuple at a, each item in a new pair -/
def IteT (K : PySem.W.Frag) (a : Addr) : It :=
  ⟨fun i H => ∃ (xs : List V) (x : V), SqT K H a xs ∧ xs[i]? = some x, fun i H v H' => ∃ T x, v = .ref T ∧ H T = none ∧ H' = upd H T (.tup [.int (i : Nat), x]) ∧ ∀ xs, SqT K H a xs → xs[i]? = some x, fun i H => ∃ xs : List V, SqT K H a xs ∧ xs.length ≤ i⟩
theorem turn_enumT {P : Program} {w : World} {K : PySem.W.Frag} {elts : List Expr} {kk : Nat} {tpos : Pos} (a e it : Addr) :
    Turn P w K (.Tuple elts kk tpos) (IteT K a) [e, it] e (fun i h => (∃ old, IsEnum h e it ((i : Nat) : Int) old) ∧ h.IsTupleIter it a i ∧ e ≠ it) where
  mem := by simp
  obj := fun i h st b hb => by
    obtain ⟨⟨old, he⟩, ⟨o, ho, hc, hd⟩, _⟩ := st
    have e' : b = e ∨ b = it := by simpa using hb
    rcases e' with z | z
    · rw [z]; exact ⟨_, he, fun v q => nomatch q⟩
    · rw [z]; exact ⟨o, ho, fun v q => by rw [hd] at q; cases q⟩
  keep := fun i h h' st k => let ⟨⟨old, he⟩, hi, hne⟩ := st; ⟨⟨old, k e (by simp) _ he⟩, hi.at fun o q => k it (by simp) o q, hne⟩
  item := by
    intro X hP hw hK hc i pins s σ H E I hf st hg
    subst hP hw hK
    obtain ⟨⟨old, he⟩, hit, hne⟩ := st
    obtain ⟨xs, x, hq, hx⟩ := hg
    obtain ⟨its, rv, p, hz⟩ := I.tuple hq
    obtain ⟨u, hu, ru⟩ := rv.get hx
    have hel : e < s.heap.objs.size := Heap.lt_size he
    have hil : it < s.heap.objs.size := by obtain ⟨_, q, _⟩ := hit; exact Heap.lt_size q
    obtain ⟨oa, hoa, hca, na, hda⟩ := id p
    have hai : a ≠ it := fun z => by
      obtain ⟨o, ho, hc', hd'⟩ := hit
      rw [← z, hoa] at ho
      cases ho
      rw [hda] at hd'
      cases hd'
    have hae : e ≠ a := fun z => by
      have he' := he
      unfold IsEnum at he'
      rw [z, hoa] at he'
      cases he'
      cases hda
    have hii : i < its.toArray.size := by
      rcases Nat.lt_or_ge i its.toArray.size with y | y
      · exact y
      · rw [List.getElem?_eq_none (by simpa using y)] at hu
        cases hu
    have hh1 : X.A.in1.handled = none := by simp [I.ok.hd hc]
    refine wpAny_pyNext_enum_itemD (Draws.tuple (prog := X.prog) (w := X.w) hh1 it a hai its.toArray) he ⟨hit, p⟩ hii hne (by simp only [List.mem_cons, List.not_mem_nil, or_false, not_or]; exact ⟨hne, hae⟩) fun v h' tk hv ho hit' hT hsz hk => ?_
    have ev : v = u := by
      have : its[i]? = some v := by simpa using hv
      rw [hu] at this
      exact (Option.some.inj this).symm
    subst ev
    refine ⟨_, rfl, wpAny_letOwnedTupleGo_enum (s := { s with heap := h', toks := tk + 1 }) ho fun h'' he' sb => ?_⟩
    have hT2 : h''.get? s.heap.objs.size = some { cls := .type "tuple", data := .seq #[.int i tk, v] } := (sb.2 _ (Nat.ne_of_gt hel)).trans hT
    have new : ObjOk X.prog X.w (upd H s.heap.objs.size (.tup [.int (i : Nat), x])) h'' s.heap.objs.size (.tup [.int (i : Nat), x]) :=
      ⟨by show 2 ≤ sizeLine; decide, [.int i tk, v], .cons ⟨_, rfl⟩ (.cons ru .nil), ⟨_, hT2, rfl, _, rfl⟩⟩
    have I1 : Inv X pins σ (upd H s.heap.objs.size (.tup [.int (i : Nat), x])) { s with heap := h'', toks := tk + 1 } :=
      I.turnedNew (ch := [e, it]) (fun b ob hb q => (sb.2 b (fun z => hb (by simp [z]))).trans (hk b ob (fun z => hb (by simp [z])) (fun z => hb (by simp [z])) q)) hf (Nat.le_refl _) new
    refine ⟨.ref s.heap.objs.size, _, I1, rfl, ⟨_, x, rfl, I.hok.fresh (Nat.le_refl _), rfl, fun ys hy => by rw [I.tuple_inj hy hq]; exact hx⟩, ⟨⟨v, ?_⟩, hit'.1.at fun o q => (sb.2 it (Ne.symm hne)).trans q, hne⟩, fun b hb => ?_⟩
    · have e1 : ((i + 1 : Nat) : Int) = (i : Int) + 1 := by omega
      rw [e1]; exact he'
    · have hb' : b < s.heap.objs.size := by
        have e' : b = e ∨ b = it := by simpa using hb
        rcases e' with z | z
        · rw [z]; exact hel
        · rw [z]; exact hil
      rw [upd_ne (Nat.ne_of_lt hb')]
      exact (hf b hb).1
  done := by
    intro X hP hw hK hc i pins s σ H E I hf st hg
    subst hP hw hK
    obtain ⟨⟨old, he⟩, hit, hne⟩ := st
    obtain ⟨xs, hq, hx⟩ := hg
    obtain ⟨its, rv, p, hz⟩ := I.tuple hq
    obtain ⟨f0, f1, f2, f3, f4, f5⟩ := hf it (by simp)
    have hl := rv.length
    have hT : s.TypeIs (.ref e) "enumerate" := ⟨_, he, rfl⟩
    unfold pyNext
    refine wpAny_bind (wpAny_attempt (wpAny_callSpecial?_slot (name := Str.ofString "__next__") hT F.slot_enumerate_next
      (wpAny_call_entry F.slot_enumerate_next hT F.entry_enumerate_next ?_ (F.args_enumerate_next_1 _))))
    show wpAny _ _ (field (.ref e) 2 >>= _) _ _ _
    refine wpAny_bind (wpAny_field he rfl (x := .ref it) rfl ?_)
    refine wpAny_bind (wpAny_nextOf_tuple_end (I.ok.hd hc) hit p (by simp; omega) fun h' x he' hx' => ?_)
    obtain ⟨o, ho, hc⟩ := hx'
    refine wpAny_bind (wpAny_isInstance (T := "StopIteration") (b := true) ⟨o, ho, hc⟩ isSubtype_stop ?_)
    exact wpAny_pure ⟨rfl, I.turned (t' := s.toks) (fun b o hb q => he' b o hb q) f0 f1 f3 f4 f5⟩
  self := fun A i s Q E st h => let ⟨⟨_, he⟩, _⟩ := st; wpAny_pyIter_enum he h
def iEnumT (K : PySem.W.Frag) (ta : TA) : TI := fun σ H R => ta σ H fun vs H1 => ∃ a xs, vs = [.ref a] ∧ SqT K H1 a xs ∧ R (IteT K a) H1
theorem pi_enumT {X : Cx} {e : Expr} {ta : TA} {p pos tpos : Pos} {elts : List Expr} {kk : Nat} (hg : Gl X "enumerate") (hm : X.mg "enumerate" = none) (ha : PA X [e] ta) (hs : starEach [e] X.env = [(false, eval e X.env)] := by rfl) :
    PI X (.Tuple elts kk tpos) (.Call (.Name "enumerate" p) [e] [] pos) (iEnumT X.K ta) := by
  refine ⟨fun pins s σ H R I h => ?_⟩
  refine Call_ (ld_blt I hg hm boot_enumerate (PyProof.Rows.callWith_type1 (thn (ha.run pos pins s σ H _ I h) fun us s1 ⟨vs, H1, I1, r1, q1⟩ => ?_) hs rfl))
  obtain ⟨a, xs, ex, hq, q⟩ := q1
  subst ex
  cases r1 with
  | cons r rr =>
    cases rr
    cases r
    obtain ⟨its, rv, p', hz⟩ := I1.tuple hq
    refine call_enumerate_tuple p' fun h' he hit hsz hk => wpAny_pyIter_enum he ?_
    have I2 : Inv X pins σ H1 { s1 with heap := h' } := I1.kept (t' := s1.toks) hk
    refine ⟨s1.heap.objs.size + 1, [s1.heap.objs.size + 1, s1.heap.objs.size], _, _, H1, rfl, I2, turn_enumT a (s1.heap.objs.size + 1) s1.heap.objs.size, ⟨⟨.none, he⟩, hit, Nat.succ_ne_self _⟩, fun b hb => ?_, q⟩
    have e' : b = s1.heap.objs.size + 1 ∨ b = s1.heap.objs.size := by simpa using hb
    have hle : s1.heap.objs.size ≤ b := by
      rcases e' with z | z
      · rw [z]; exact Nat.le_add_right _ _
      · rw [z]; exact Nat.le_refl _
    exact I1.fpOk hle (I1.hok.fresh hle)
theorem walk_enumT {K : PySem.W.Frag} {a : Addr} {xs : List V} : Walk (IteT K a) xs.length (fun H => SqT K H a xs) (YPair (fun i => some (.int (i : Nat))) (fun i => xs[i]?)) := by
  refine ⟨fun i _ hi q => ⟨xs, xs[i], q, by simp [hi]⟩, fun _ q => ⟨xs, q, Nat.le_refl _⟩, fun i H v H' _ q y => ?_⟩
  obtain ⟨T, x, h1, h2, h3, h4⟩ := y
  exact ⟨T, .int (i : Nat), x, h1, h2, h3, rfl, h4 xs q⟩
end Bx
namespace Bx
open PySem PySem.Spec PyProof.Rows L2
theorem pi_enumTK {X : Cx} {K : PySem.W.Frag} (h : X.K = K) {e : Expr} {ta : TA} {p pos tpos : Pos} {elts : List Expr} {kk : Nat} (hg : Gl X "enumerate") (hm : X.mg "enumerate" = none) (ha : PA X [e] ta) (hs : starEach [e] X.env = [(false, eval e X.env)] := by rfl) :
    PI X (.Tuple elts kk tpos) (.Call (.Name "enumerate" p) [e] [] pos) (iEnumT K ta) := by
  subst h
  exact pi_enumT hg hm ha hs
/-- two clauses, the outer walk over anything -/
theorem lc2_it {J : It} {n : Nat} {G : Hp → Prop} {Y : Nat → Hp → V → Hp → Prop} (w : Walk J n G Y) {g g1 : TG} {tt tt1 : TT} {wi1 : TI} {te : TE} {vs vs1 : List Nat} {σ : L2.St} {H1 : Hp} {D : Addr} {Qd : Hp → Prop} (Pv : Nat → Hp → Prop) (h0 : Pv 0 (upd H1 D (.lst []))) (hG : ∀ i H, i ≤ n → Pv i H → G H)
    (hs : ∀ i x H H0, i < n → Pv i H → Y i H x H0 → g x (wipe σ vs) H0 fun σ2 H2 => wipe σ2 vs = wipe σ vs ∧ tt σ2 H2 fun b H3 => if b = true then wi1 σ2 H3 fun J1 H4 => ∃ W1 : Nat → Nat → Hp → Prop, (∃ m, W1 0 m H4) ∧ ∀ j k H, W1 j k H →
      (J1.stop j H ∧ Pv (i + 1) H) ∨ (J1.go j H ∧ ∃ Nx1 : Hp → Prop, (∀ H', Nx1 H' → ∃ k', k' < k ∧ W1 (j + 1) k' H') ∧ ∀ x H', J1.yld j H x H' → g1 x (wipe σ2 vs1) H' fun σ3 H5 => wipe σ3 vs1 = wipe σ2 vs1 ∧ tt1 σ3 H5 fun b H6 =>
        if b = true then te σ3 H6 fun y H7 => ∃ acc, H7 D = some (.lst acc) ∧ acc.length < sizeLine ∧ Nx1 (upd H7 D (.lst (acc ++ [y]))) else Nx1 H6) else Pv (i + 1) H3) (hd : ∀ H, Pv n H → Qd H) :
    ∃ W : Nat → Nat → Hp → Prop, (∃ m, W 0 m (upd H1 D (.lst []))) ∧ ∀ i m H, W i m H →
      (J.stop i H ∧ Qd H) ∨ (J.go i H ∧ ∃ Nx : Hp → Prop, (∀ H', Nx H' → ∃ m', m' < m ∧ W (i + 1) m' H') ∧ ∀ x H', J.yld i H x H' → g x (wipe σ vs) H' fun σ2 H2 => wipe σ2 vs = wipe σ vs ∧ tt σ2 H2 fun b H3 =>
        if b = true then wi1 σ2 H3 fun J1 H4 => ∃ W1 : Nat → Nat → Hp → Prop, (∃ m, W1 0 m H4) ∧ ∀ j k H, W1 j k H →
          (J1.stop j H ∧ Nx H) ∨ (J1.go j H ∧ ∃ Nx1 : Hp → Prop, (∀ H', Nx1 H' → ∃ k', k' < k ∧ W1 (j + 1) k' H') ∧ ∀ x H', J1.yld j H x H' → g1 x (wipe σ2 vs1) H' fun σ3 H5 => wipe σ3 vs1 = wipe σ2 vs1 ∧ tt1 σ3 H5 fun b H6 =>
            if b = true then te σ3 H6 fun y H7 => ∃ acc, H7 D = some (.lst acc) ∧ acc.length < sizeLine ∧ Nx1 (upd H7 D (.lst (acc ++ [y]))) else Nx1 H6) else Nx H3) := by
  refine ⟨fun i m H => m = n - i ∧ i ≤ n ∧ Pv i H, ⟨n, by simp, Nat.zero_le _, h0⟩, ?_⟩
  rintro i m H ⟨rfl, hi, p⟩
  have q := hG i H hi p
  rcases Nat.lt_or_ge i n with c | c
  · exact .inr ⟨w.goes i H c q, Pv (i + 1), fun H' p' => ⟨n - (i + 1), by omega, rfl, c, p'⟩, fun x H' y => hs i x H H' c p (w.yields i H x H' c q y)⟩
  · have e : i = n := Nat.le_antisymm hi c
    subst e
    exact .inl ⟨w.stops H q, hd H p⟩
/-- .. the inner walk over anything -/
theorem lc2_inIt {J : It} {n : Nat} {G : Hp → Prop} {Y : Nat → Hp → V → Hp → Prop} (w : Walk J n G Y) {g1 : TG} {tt1 : TT} {te : TE} {vs1 : List Nat} {σ2 : L2.St} {H4 : Hp} {D : Addr} {Nx : Hp → Prop} (Pv : Nat → Hp → Prop) (h0 : Pv 0 H4) (hG : ∀ i H, i ≤ n → Pv i H → G H)
    (hs : ∀ j x H H0, j < n → Pv j H → Y j H x H0 → g1 x (wipe σ2 vs1) H0 fun σ3 H5 => wipe σ3 vs1 = wipe σ2 vs1 ∧ tt1 σ3 H5 fun c H6 => if c = true then te σ3 H6 fun y H7 => ∃ acc, H7 D = some (.lst acc) ∧ acc.length < sizeLine ∧ Pv (j + 1) (upd H7 D (.lst (acc ++ [y]))) else Pv (j + 1) H6)
    (hd : ∀ H, Pv n H → Nx H) :
    ∃ W1 : Nat → Nat → Hp → Prop, (∃ m, W1 0 m H4) ∧ ∀ j k H, W1 j k H →
      (J.stop j H ∧ Nx H) ∨ (J.go j H ∧ ∃ Nx1 : Hp → Prop, (∀ H', Nx1 H' → ∃ k', k' < k ∧ W1 (j + 1) k' H') ∧ ∀ x H', J.yld j H x H' → g1 x (wipe σ2 vs1) H' fun σ3 H5 => wipe σ3 vs1 = wipe σ2 vs1 ∧ tt1 σ3 H5 fun c H6 =>
        if c = true then te σ3 H6 fun y H7 => ∃ acc, H7 D = some (.lst acc) ∧ acc.length < sizeLine ∧ Nx1 (upd H7 D (.lst (acc ++ [y]))) else Nx1 H6) := by
  refine ⟨fun j m H => m = n - j ∧ j ≤ n ∧ Pv j H, ⟨n, by simp, Nat.zero_le _, h0⟩, ?_⟩
  rintro j m H ⟨rfl, hj, p⟩
  have q := hG j H hj p
  rcases Nat.lt_or_ge j n with c | c
  · exact .inr ⟨w.goes j H c q, Pv (j + 1), fun H' p' => ⟨n - (j + 1), by omega, rfl, c, p'⟩, fun x H' y => hs j x H H' c p (w.yields j H x H' c q y)⟩
  · have e : j = n := Nat.le_antisymm hj c
    subst e
    exact .inl ⟨w.stops H q, hd H p⟩
end Bx
namespace Bx
open PySem PySem.Spec PyProof.Rows L2
theorem call_anyK {X : Cx} {K : PySem.W.Frag} (h : X.K = K) (hc : X.calm = true) : CallR X (.builtin "any") (rAny K) := by
  subst h
  exact cr_any hc
end Bx
/-! closures that are handed on: defs in a def with cells of their own, called where the maker's frame is out of sight -/
namespace Clo
open PySem PySem.Spec PyProof.Rows L2 LamX NdefX
/-! ### the frame of a closure -/
theorem cellsFrom_acc : ∀ (names : List (Str × NameKind)) (n : Nat) (acc : List (Str × Addr)), cellsFrom n names acc = cellsFrom n names [] ++ acc
  | [], _, _ => rfl
  | (x, k) :: r, n, acc => by
    unfold cellsFrom
    split
    · rw [cellsFrom_acc r (n + 1) ((x, n) :: acc), cellsFrom_acc r (n + 1) [(x, n)], List.append_assoc]
      rfl
    · exact cellsFrom_acc r n acc
theorem look_app {α : Type} {l m : List (Str × α)} {x : Str} : (l ++ m).lookup x = (l.lookup x).or (m.lookup x) := List.lookup_append
theorem forIn_same {f g : Str × Value → PUnit → Sem (ForInStep PUnit)} : ∀ (bs : List (Str × Value)), (∀ b ∈ bs, ∀ u, f b u = g b u) → (forIn bs PUnit.unit f : Sem PUnit) = forIn bs PUnit.unit g
  | [], _ => rfl
  | b :: bs, h => by
    rw [List.forIn_cons, List.forIn_cons, h b List.mem_cons_self]
    have ih := forIn_same bs fun c hc => h c (List.mem_cons_of_mem _ hc)
    congr 1
    funext r
    cases r with
    | done u => rfl
    | yield u => cases u; exact ih
/-- a store sees the cells by the name alone -/
theorem store_cells {env : Env} {cs : List (Str × Addr)} {n : Str} {v : Value} (h : env.cells.lookup n = cs.lookup n) : storeName env n v = storeName { env with cells := cs } n v := by
  have hc : PySem.cellOf env n = PySem.cellOf { env with cells := cs } n := by
    unfold PySem.cellOf
    rw [h]
  unfold storeName
  rw [hc]
  rfl
end Clo
namespace Clo
open PySem PySem.Spec PyProof.Rows L2 LamX NdefX
abbrev ownC (n : Nat) (scope : Scope) : List (Str × Addr) := cellsFrom (n + 1) scope.names []
theorem newEnv_clo {M : Model} {A : Around} {E : Value → Shared → Prop} {s : Shared} {scope : Scope} {globals : Addr} {closure : List (Str × Addr)} {binds : List (Str × Value)} {qual : Str} {func : Option Addr} {code : Value} {builtins : Addr} {Q : Env → Shared → Prop}
    (hk : scope.kind = .function) (hkind : ∀ x ∈ binds, scope.names.lookup x.1 = some .local ∨ scope.names.lookup x.1 = some .cell)
    (hcl : ∀ x ∈ binds, closure.lookup x.1 = none)
    (hQ : ∀ s', InCallC s s.heap.objs.size (bindL (fun y => scope.names.lookup y) binds fun _ => none) (ownC s.heap.objs.size scope) (bindC (fun y => scope.names.lookup y) binds fun _ => none) s' →
      Q (newEnv scope s.heap.objs.size globals (ownC s.heap.objs.size scope ++ closure) qual func code none builtins) s') :
    wpAny M A (newFunctionEnv scope globals closure binds qual func code none builtins) Q E s := by
  simp only [newFunctionEnv, Option.isSome_none, Bool.false_eq_true, if_false]
  refine wpAny_bind (wpAny_alloc ?_)
  refine wpAny_bind (wpAny_layCells _ (fun name kind cells => by cases hkc : kind == NameKind.cell <;> simp [hkc]) _ _ _ _ ?_)
  have ok := cellsFrom_ok scope.names (s.heap.push { cls := .type "frame", data := .dict #[] }) (s.heap.objs.size + 1) [] ⟨fun _ _ hm => (nomatch hm), List.Pairwise.nil⟩ (by rw [Heap.size_push]; exact Nat.le_refl _)
  rw [Heap.size_push] at ok
  rw [show ({ s with heap := s.heap.push { cls := .type "frame", data := .dict #[] } } : Shared).heap.objs.size = s.heap.objs.size + 1 from Heap.size_push .., cellsFrom_acc]
  have own : ∀ x ∈ binds, scope.names.lookup x.1 = some .local ∨ (scope.names.lookup x.1 = some .cell ∧ ((ownC s.heap.objs.size scope).lookup x.1).isSome = true) := fun x hx => (hkind x hx).imp id fun z => ⟨z, PySem.W.cellsFrom_some _ _ _ (.inl z)⟩
  rw [forIn_same (g := fun b u => do storeName { newEnv scope s.heap.objs.size globals (ownC s.heap.objs.size scope ++ closure) qual func code none builtins with cells := ownC s.heap.objs.size scope } b.1 b.2; pure (.yield ⟨⟩)) binds fun b hb u => ?_]
  · refine wpAny_bind (wpAny_bindParams (s₀ := s) (env := { newEnv scope s.heap.objs.size globals (ownC s.heap.objs.size scope ++ closure) qual func code none builtins with cells := ownC s.heap.objs.size scope })
      _ (fun _ _ _ => rfl) hk binds (fun _ => none) (fun _ => none) _ _
      ⟨⟨⟨_, _, rfl⟩, (Heap.Ns.new s.heap (.type "frame")).keeps (pushCells_keeps _ _), fun b o e => pushCells_keeps _ _ b o (Heap.get?_push_of_some _ e), Nat.le_refl _⟩,
        fun n c hc => (ok.empty n c (mem_of_lookup hc)).1, ok.apart, fun n c hm => (ok.empty n c hm).2⟩
      own fun s' x => wpAny_pure (hQ s' x))
  · have e : (newEnv scope s.heap.objs.size globals (ownC s.heap.objs.size scope ++ closure) qual func code none builtins).cells.lookup b.1 = (ownC s.heap.objs.size scope).lookup b.1 := by
      show (ownC s.heap.objs.size scope ++ closure).lookup b.1 = _
      rw [look_app, hcl b hb]
      cases (ownC s.heap.objs.size scope).lookup b.1 <;> rfl
    obtain ⟨n, v⟩ := b
    exact congrArg (fun z : Sem Unit => (do z; pure (ForInStep.yield PUnit.unit) : Sem (ForInStep PUnit))) (store_cells (v := v) e)
end Clo
namespace Clo
open PySem PySem.Spec PyProof.Rows L2 LamX NdefX
/-- the names of a closure: the parameters, then the captured ones, then its own; its own may be captured again -/
structure CScope (N ps fr : List Str) (sc : Scope) : Prop where
  kind : sc.kind = .function
  co : sc.isCoroutine = false
  gen : sc.isGenerator = false
  nd : N.Nodup
  pre : N.take (ps.length + fr.length) = ps ++ fr
  par : ∀ x ∈ ps, sc.names.lookup x = some .local ∨ sc.names.lookup x = some .cell
  free : ∀ y ∈ sc.names, y.2 = .free → y.1 ∈ fr
  frk : ∀ x ∈ fr, sc.names.lookup x = some .free
  uq : ∀ y ∈ sc.names, sc.names.lookup y.1 = some y.2
def cscB (N ps fr : List Str) (sc : Scope) : Bool :=
  decide (sc.kind = .function) && !sc.isCoroutine && !sc.isGenerator && decide N.Nodup && decide (N.take (ps.length + fr.length) = ps ++ fr) && ps.all (fun x => decide (sc.names.lookup x = some .local) || decide (sc.names.lookup x = some .cell)) && sc.names.all (fun y => !decide (y.2 = .free) || decide (y.1 ∈ fr)) && fr.all (fun x => decide (sc.names.lookup x = some .free)) && sc.names.all (fun y => decide (sc.names.lookup y.1 = some y.2))
theorem cscope_by {N ps fr : List Str} {sc : Scope} (h : cscB N ps fr sc = true) : CScope N ps fr sc := by
  unfold cscB at h
  simp only [Bool.and_eq_true, Bool.not_eq_true', decide_eq_true_eq, List.all_eq_true, Bool.or_eq_true, decide_eq_false_iff_not] at h
  obtain ⟨⟨⟨⟨⟨⟨⟨⟨h1, h2⟩, h3⟩, h4⟩, h5⟩, h6⟩, h8⟩, h9⟩, h10⟩ := h
  exact ⟨h1, h2, h3, h4, h5, h6, fun y hy e => (h8 y hy).elim (fun z => absurd e z) id, h9, h10⟩
abbrev envC (F : NF) (f L : Addr) : Env := PySem.W.envX F.qual F.scope L f (.ref F.c) (ownC L F.scope ++ F.cl)
def ncxC (CX : CXT) (P : Program) (w : World) (K : PySem.W.Frag) (mg : Str → Option Value) (base : Heap) (N : List Str) (F : NF) (f : Addr) (A : Around) (outer : List Env) (s : Shared) (H : Hp) (E : XK) : Cx where
  prog := P
  w := w
  K := K
  mg := mg
  base := base
  A := A.deeper (envC F f s.heap.objs.size)
  N := N
  s_0 := s
  H_0 := H
  env := envC F f s.heap.objs.size
  outer := outer
  stack := envC F f s.heap.objs.size :: outer
  ex := []
  calm := true
  fn := fun x => decide (F.scope.names.lookup x = some .cell)
  pn := []
  xe := fun e s' => wpAny (model P w) (A.deeper (envC F f s.heap.objs.size)) (leaving (envC F f s.heap.objs.size) e) (fun _ s'' => CX outer H s E e s'') (fun e' s'' => CX outer H s E e' s'') s'
section
variable {CX : CXT} {P : Program} {w : World} {K : PySem.W.Frag} {mg : Str → Option Value} {base : Heap} {N ps fr : List Str} {F : NF} {f : Addr} {A : Around} {outer : List Env} {s s1 : Shared} {H : Hp} {E : XK} {us : List Value} {vs : List V} {ws : List (Option V)}
theorem own_cell {sc : Scope} {n : Nat} {x : Str} {c : Addr} (h : (ownC n sc).lookup x = some c) : (x, NameKind.cell) ∈ sc.names := by
  have gen : ∀ (names : List (Str × NameKind)) (n : Nat) (acc : List (Str × Addr)), (x, c) ∈ cellsFrom n names acc → (x, c) ∈ acc ∨ (x, NameKind.cell) ∈ names := by
    intro names
    induction names with
    | nil => exact fun n acc h => .inl h
    | cons p r ih =>
      intro n acc h
      obtain ⟨y, k⟩ := p
      unfold cellsFrom at h
      split at h
      · rename_i hk
        rcases ih _ _ h with z | z
        · rcases List.mem_cons.mp z with e | z
          · have e1 : x = y := (Prod.mk.inj e).1
            have e2 : k = NameKind.cell := eq_of_beq hk
            exact .inr (by rw [e1, e2]; exact List.mem_cons_self)
          · exact .inl z
        · exact .inr (List.mem_cons_of_mem _ z)
      · rcases ih _ _ h with z | z
        · exact .inl z
        · exact .inr (List.mem_cons_of_mem _ z)
  rcases gen _ _ _ (PySem.mem_of_lookup h) with z | z
  · cases z
  · exact z
theorem inv_startC (S : CScope N ps fr F.scope) (hd : A.handled = none) (e0 : Env0 P w K mg base A outer s H) (hl : vs.length = ps.length) (r : Vals vs us) (C : CellsAt F.cl fr ws s.heap H) (hcl : ∀ y c, F.cl.lookup y = some c → F.scope.names.lookup y = some .free)
    (x : InCallC s s.heap.objs.size (bindL (fun y => F.scope.names.lookup y) (ps.zip us) fun _ => none) (ownC s.heap.objs.size F.scope) (bindC (fun y => F.scope.names.lookup y) (ps.zip us) fun _ => none) s1) :
    Inv (ncxC CX P w K mg base N F f A outer s H E) [] (startF N vs ws) H s1 := by
  have hpl : ps.length + fr.length ≤ N.length := by
    have q := congrArg List.length S.pre
    rw [List.length_take, List.length_append] at q
    omega
  obtain ⟨h1, tk, rfl, hk⟩ := x.done
  have noA : ∀ b : Addr, b ∉ (ncxC CX P w K mg base N F f A outer s H E).ex := fun b z => absurd (show b ∈ ([] : List Addr) from z) (by simp)
  have cellK : ∀ {c : Addr} {v : Option Value}, s.heap.IsCell c v → h1.IsCell c v := fun {c v} ⟨o, ho, hd⟩ => ⟨o, hk _ _ ho, hd⟩
  have cellLt : ∀ {c : Addr} {v : Option Value}, s.heap.IsCell c v → c < s.heap.objs.size := fun z => z.lt
  have look : ∀ y c, (ncxC CX P w K mg base N F f A outer s H E).env.cells.lookup y = some c → (ownC s.heap.objs.size F.scope).lookup y = some c ∨ ((ownC s.heap.objs.size F.scope).lookup y = none ∧ F.cl.lookup y = some c) := fun y c e => by
    have e : (ownC s.heap.objs.size F.scope ++ F.cl).lookup y = some c := e
    rw [look_app] at e
    cases q : (ownC s.heap.objs.size F.scope).lookup y with
    | none => rw [q] at e; exact .inr ⟨rfl, e⟩
    | some c' => rw [q] at e; exact .inl e
  have mk_own : ∀ y c, (ownC s.heap.objs.size F.scope).lookup y = some c → (ncxC CX P w K mg base N F f A outer s H E).env.cells.lookup y = some c := fun y c e => by
    show (ownC s.heap.objs.size F.scope ++ F.cl).lookup y = some c
    rw [look_app, e]; rfl
  have own_k : ∀ y c, (ownC s.heap.objs.size F.scope).lookup y = some c → F.scope.names.lookup y = some .cell := fun y c e => S.uq _ (own_cell e)
  have free_no : ∀ y, F.scope.names.lookup y = some .free → (ownC s.heap.objs.size F.scope).lookup y = none := fun y e => by
    cases q : (ownC s.heap.objs.size F.scope).lookup y with
    | none => rfl
    | some c =>
      rw [own_k y c q] at e
      cases e
  have mk_clo : ∀ y c, F.cl.lookup y = some c → (ncxC CX P w K mg base N F f A outer s H E).env.cells.lookup y = some c := fun y c e => by
    show (ownC s.heap.objs.size F.scope ++ F.cl).lookup y = some c
    rw [look_app, free_no y (hcl y c e)]
    exact e
  have above : ∀ y c, (ownC s.heap.objs.size F.scope).lookup y = some c → s.heap.objs.size < c := fun y c e => x.above y c (PySem.mem_of_lookup e)
  have below : ∀ y c, F.cl.lookup y = some c → c < s.heap.objs.size := fun y c e => by
    obtain ⟨v, z⟩ := (C.all y c e).2
    exact z.lt
  refine ⟨⟨e0.mod, S.kind, rfl, rfl, Nat.le_refl _, fun y z c h1 h2 => ?_, fun y hy => ?_, fun y c z h => ?_, fun _ => hd, Around.frames_deeper e0.frames, .inr ⟨rfl, rfl⟩, fun b z => absurd z (noA b), e0.bs, e0.bsz, fun b _ _ => noA b, fun b z => absurd z (noA b), e0.funs, e0.frf⟩,
    rfl, e0.bare, Un.kept hk, ⟨_, x.toInCall.ns, fun i y v e1 e2 e3 => ?_⟩, fun y c e => ?_, e0.hok.fresh (Nat.le_refl _), fun y c e => ?_, fun q hq => absurd (show q ∈ ([] : List (Addr × Obj)) ++ [] from hq) (by simp), e0.hok.kept hk, ?_⟩
  · rcases look y c h1 with e1 | ⟨_, e1⟩ <;> rcases look z c h2 with e2 | ⟨_, e2⟩
    · exact name_of_addr x.apart (PySem.mem_of_lookup e1) (PySem.mem_of_lookup e2)
    · exact absurd (Nat.lt_trans (above y c e1) (below z c e2)) (Nat.lt_irrefl _)
    · exact absurd (Nat.lt_trans (above z c e2) (below y c e1)) (Nat.lt_irrefl _)
    · exact C.inj y z c e1 e2
  · have hy : F.scope.names.lookup y = some .cell ∨ F.scope.names.lookup y = some .free := hy
    rcases hy with hy | hy
    · obtain ⟨c, e⟩ := cell_has (n := s.heap.objs.size + 1) hy
      exact ⟨c, mk_own y c e⟩
    · obtain ⟨i, hi⟩ := List.mem_iff_getElem?.mp (S.free _ (PySem.mem_of_lookup hy) rfl)
      obtain ⟨c, hc, _⟩ := C.has i y hi
      exact ⟨c, mk_clo y c hc⟩
  · have z : F.scope.names.lookup y = some .cell := of_decide_eq_true z
    rcases look y c h with e | ⟨_, e⟩
    · exact Nat.le_of_lt (above y c e)
    · rw [hcl y c e] at z
      cases z
  · have e1 : N[i]? = some y := e1
    have clen := C.len
    unfold startF at e2
    by_cases h1 : i < ps.length
    · have hq : (ps ++ fr)[i]? = some y := by
        rw [← S.pre, List.getElem?_take_of_lt (by omega)]
        exact e1
      rw [List.getElem?_append_left h1] at hq
      rw [List.getElem?_append_left (by rw [List.length_map]; omega), List.getElem?_map] at e2
      have ha : vs[i]? = some v := by
        cases e : vs[i]? with
        | none => rw [e] at e2; cases e2
        | some a => rw [e] at e2; cases e2; rfl
      obtain ⟨u, hu, rv⟩ := r.get ha
      have ndP : ps.Nodup := by
        have q := S.nd.sublist (List.take_sublist (ps.length + fr.length) N)
        rw [S.pre] at q
        exact (List.nodup_append.mp q).1
      refine ⟨u, rv, ?_⟩
      rcases S.par y (List.mem_of_getElem? hq) with k | k
      · exact .inl ⟨k, bindL_get ndP hq hu k⟩
      · obtain ⟨c, e⟩ := cell_has (n := s.heap.objs.size + 1) k
        refine .inr ⟨.inl k, c, mk_own y c e, ?_⟩
        have q := x.cell y c e
        rw [bindC_get ndP hq hu (by show F.scope.names.lookup y ≠ _; rw [k]; decide)] at q
        exact q
    · rw [List.getElem?_append_right (by rw [List.length_map]; omega), List.length_map] at e2
      by_cases h2 : i < ps.length + fr.length
      · have hq : (ps ++ fr)[i]? = some y := by
          rw [← S.pre, List.getElem?_take_of_lt (by omega)]
          exact e1
        rw [List.getElem?_append_right (by omega)] at hq
        rw [List.getElem?_append_left (by omega), hl] at e2
        obtain ⟨c, hc, hv⟩ := C.has (i - ps.length) y hq
        obtain ⟨u, ru, hu⟩ := hv v e2
        exact ⟨u, ru, .inr ⟨.inr (S.frk y (List.mem_of_getElem? hq)), c, mk_clo y c hc, cellK hu⟩⟩
      · rw [List.getElem?_append_right (by omega), List.getElem?_replicate] at e2
        split at e2 <;> cases e2
  · rcases look y c e with e | ⟨_, e⟩
    · exact ⟨_, x.cell y c e⟩
    · obtain ⟨v, z⟩ := (C.all y c e).2
      exact ⟨v, cellK z⟩
  · rcases look y c e with e | ⟨_, e⟩
    · exact e0.hok.fresh (Nat.le_of_lt (above y c e))
    · exact (C.all y c e).1
  · have clen := C.len
    unfold startF
    show _ = N.length
    rw [List.length_append, List.length_append, List.length_map, List.length_replicate]
    omega
end
end Clo
namespace Clo
open PySem PySem.Spec PyProof.Rows L2 LamX NdefX
section
variable {CX : CXT} {P : Program} {w : World} {K : PySem.W.Frag} {mg : Str → Option Value} {base : Heap} {N ps fr : List Str} {F : NF} {f : Addr} {k : Nat} {sp : List (Option V) → Sp}
/-- a closure by its body -/
theorem nokC_of (S : CScope N ps fr F.scope) (hcl : ∀ y c, F.cl.lookup y = some c → F.scope.names.lookup y = some .free) (hb : ∀ (doc pm ctv : Value) (us : List Value), us.length = ps.length → bindArgs (F.fd doc pm ctv) ⟨us, []⟩ = pure (ps.zip us)) (len : ∀ ws vs H Q E, sp ws vs H Q E → vs.length = ps.length)
    (hbody : ∀ (A : Around) (outer : List Env) (s : Shared) (H : Hp) (vs : List V) (ws : List (Option V)) (Q : VK) (E : XK), Room k (A.deeper (envC F f s.heap.objs.size)) → H f = some (FnO f F) → H F.c = some (CodeO F.c F.qual) → ws.length = fr.length → sp ws vs H Q E →
      ∃ t, PSs (ncxC CX P w K mg base N F f A outer s H E).nox F.body t ∧ t { nx := fun _ H' => Q .non H', rt := Q } (startF N vs ws) H) :
    NOk P w K mg base CX (k + 1) f F ps fr sp := by
  refine ⟨len, fun A outer s H us vs ws Q E hr e0 hf hc C r hsp => ?_⟩
  have hl := len _ _ _ _ _ hsp
  have lim : s.heap.NoLimit := e0.mod.nolimit.keeps fun b o e => (e0.bs b o e).1
  obtain ⟨od, sl, doc, pm, ctv, ho⟩ := fnO_at e0.hok hf
  refine codeAny_call_function hr.depth ho rfl S.co S.gen rfl (codeO_at e0.hok hc) ?_
  rw [hb doc pm ctv us (by rw [← r.length]; exact hl)]
  have hpk : ∀ x ∈ ps.zip us, F.scope.names.lookup x.1 = some .local ∨ F.scope.names.lookup x.1 = some .cell := fun ⟨n, v⟩ hx => S.par n (List.of_mem_zip hx).1
  refine wpAny_pure (newEnv_clo S.kind hpk (fun x hx => ?_) fun s1 x => ?_)
  · show F.cl.lookup x.1 = none
    cases q : F.cl.lookup x.1 with
    | none => rfl
    | some c =>
      have h1 := hcl x.1 c q
      rcases hpk x hx with h2 | h2 <;> rw [h1] at h2 <;> cases h2
  refine ⟨lim.keeps x.toInCall.keep, ?_⟩
  show codeAny _ _ (.func F.body (envC F f s.heap.objs.size)) _ _
  refine codeAny_func ?_
  obtain ⟨t, ht, hq⟩ := hbody A outer s H vs ws Q E (hr.deeper _) hf hc C.len hsp
  have I : Inv (ncxC CX P w K mg base N F f A outer s H E) [] (startF N vs ws) H s1 := inv_startC S hr.hd e0 hl r C hcl x
  refine wpAny_mono (ht.nox.run [] _ (startF N vs ws) H _ I hq) (fun fl s' hs => ?_) fun e s' hs => hs
  have fin : ∀ {σ' : L2.St} {H' : Hp} {v : V} {u : Value}, Inv (ncxC CX P w K mg base N F f A outer s H E) [] σ' H' s' → L2.RelV v u → Q v H' → CE outer P w H s Q u s' :=
    fun {σ' H' v u} J rv q => ⟨v, H', J.os, J.bare, J.base, J.hok, rv, q⟩
  cases fl with
  | ret u =>
    obtain ⟨v, σ', H', J, rv, q⟩ := hs
    exact fin J rv q
  | next =>
    obtain ⟨σ', H', J, q⟩ := hs
    exact fin (v := V.non) (u := Value.none) J rfl q
  | brk =>
    obtain ⟨_, _, _, q⟩ := hs
    exact False.elim q
  | cont =>
    obtain ⟨_, _, _, q⟩ := hs
    exact False.elim q
end
end Clo
namespace Clo
open PySem PySem.Spec PyProof.Rows L2 LamX NdefX
/-! ### cells as known things -/
/-- the object at c is a cell that holds v -/
def CelO (c : Addr) (v : V) : HO := .ext fun h => ∃ u, RelV v u ∧ h.IsCell c (some u)
/-- the cell at c is known, and never written while it is so -/
def CelH (H : Hp) (c : Addr) (v : V) : Prop := ∃ o, H c = some (.frz o (CelO c v))
abbrev adr (cl : List (Str × Addr)) : List Addr := cl.map (·.2)
def remC (cl : List (Str × Addr)) (H : Hp) : Hp := fun b => if b ∈ adr cl then none else H b
def backC (cl : List (Str × Addr)) (H H2 : Hp) : Hp := fun b => if b ∈ adr cl then H b else H2 b
def addC (cl : List (Str × Addr)) (g : Addr → V) (os : Addr → Obj) (H : Hp) : Hp := fun b => if b ∈ adr cl then some (.frz (os b) (CelO b (g b))) else H b
theorem rem_in {cl : List (Str × Addr)} {H : Hp} {b : Addr} (h : b ∈ adr cl) : remC cl H b = none := if_pos h
theorem rem_out {cl : List (Str × Addr)} {H : Hp} {b : Addr} (h : b ∉ adr cl) : remC cl H b = H b := if_neg h
theorem back_in {cl : List (Str × Addr)} {H H2 : Hp} {b : Addr} (h : b ∈ adr cl) : backC cl H H2 b = H b := if_pos h
theorem back_out {cl : List (Str × Addr)} {H H2 : Hp} {b : Addr} (h : b ∉ adr cl) : backC cl H H2 b = H2 b := if_neg h
theorem add_in {cl : List (Str × Addr)} {g : Addr → V} {os : Addr → Obj} {H : Hp} {b : Addr} (h : b ∈ adr cl) : addC cl g os H b = some (.frz (os b) (CelO b (g b))) := if_pos h
theorem add_out {cl : List (Str × Addr)} {g : Addr → V} {os : Addr → Obj} {H : Hp} {b : Addr} (h : b ∉ adr cl) : addC cl g os H b = H b := if_neg h
section
variable {P : Program} {w : World} {H H' H2 : Hp} {h h' : Heap} {cl : List (Str × Addr)}
theorem celO_ok {o : Obj} {c : Addr} {v : V} {u : Value} (e : h.get? c = some o) (r : RelV v u) (d : o.data = .cell (some u)) : ObjOk P w H h c (.frz o (CelO c v)) :=
  ⟨e, ⟨u, r, o, e, d⟩, ⟨o, e⟩, fun h1 h2 ⟨u', r', o', e', d'⟩ st => ⟨u', r', o', st _ e', d'⟩⟩
theorem celO_cell {o : Obj} {c : Addr} {v : V} (x : ObjOk P w H h c (.frz o (CelO c v))) : h.get? c = some o ∧ ∃ u, RelV v u ∧ o.data = .cell (some u) := by
  obtain ⟨e, ⟨u, r, o', e', d⟩, _⟩ := x
  rw [e] at e'
  obtain rfl := Option.some.inj e'
  exact ⟨e, u, r, d⟩
/-- the tracked heap may differ at what is none in one of them -/
theorem hok_sub (x : HOk P w H h) (s : ∀ b o, H' b = some o → H b = some o) (t : ∀ b o, H b = some o → (∃ a, o = .own a) ∨ (∃ xs, o = .tup xs) → H' b = some o) : HOk P w H' h := fun b o e =>
  (x b o (s b o e)).stay (fun _ _ _ q => q) (fun c q => t c _ q (.inl ⟨_, rfl⟩)) fun c xs q => t c _ q (.inr ⟨_, rfl⟩)
theorem hok_rem (x : HOk P w H h) (hc : ∀ b ∈ adr cl, ∃ v, CelH H b v) : HOk P w (remC cl H) h := by
  refine hok_sub x (fun b o e => ?_) fun b o e k => ?_
  · by_cases hb : b ∈ adr cl
    · rw [rem_in hb] at e; cases e
    · rwa [rem_out hb] at e
  · have hb : b ∉ adr cl := fun z => by
      obtain ⟨v, ob, q⟩ := hc b z
      rw [q] at e
      obtain rfl := Option.some.inj e
      rcases k with ⟨a, k⟩ | ⟨a, k⟩ <;> cases k
    rw [rem_out hb]
    exact e
end
end Clo
namespace Clo
open PySem PySem.Spec PyProof.Rows L2 LamX NdefX
section
variable {P : Program} {w : World} {H : Hp} {s s' : Shared} {cl : List (Str × Addr)} {outer : List Env} {Q : VK} {u : Value}
/-- behind a call for which the cells were put out of sight -/
theorem ce_back (hok : HOk P w H s.heap) (hc : ∀ b ∈ adr cl, ∃ v, CelH H b v) (nf : ∀ b ∈ adr cl, b ∉ frs outer) (h : CE outer P w (remC cl H) s (fun v H2 => (∀ b ∈ adr cl, H2 b = none) → Q v (backC cl H H2)) u s') : CE outer P w H s Q u s' := by
  obtain ⟨v, H2, os, bare, un, ok, r, q⟩ := h
  have gone : ∀ b ∈ adr cl, H2 b = none := fun b hcl => by
    obtain ⟨x', o2, e'⟩ := hc b hcl
    obtain ⟨e3, _⟩ := celO_cell (hok b _ e')
    exact un.free b _ e3 (rem_in hcl) (by simp)
  have q := q gone
  have kept : ∀ b ∈ adr cl, ∃ (o : Obj) (x : V), H b = some (.frz o (CelO b x)) ∧ s'.heap.get? b = some o ∧ ∃ y, RelV x y ∧ o.data = .cell (some y) := fun b hb => by
    obtain ⟨x, o, e⟩ := hc b hb
    obtain ⟨e1, y, ry, d⟩ := celO_cell (hok b _ e)
    exact ⟨o, x, e, un.keep b o e1 (rem_in hb) (nf b hb) (by simp), y, ry, d⟩
  refine ⟨v, backC cl H H2, os, bare, ⟨fun b o e n hf hx => ?_, fun b o e n hf hx => ?_, fun b o e n hx => ?_, fun b o e hx => un.there b o e hx, fun b xs e => ?_, fun b o x e => ?_, fun b ps e => ?_⟩, fun b o e => ?_, r, q⟩
  · have hb : b ∉ adr cl := fun z => by obtain ⟨x, o', e'⟩ := hc b z; rw [n] at e'; cases e'
    exact un.keep b o e (by rw [rem_out hb]; exact n) hf hx
  · have hb : b ∉ adr cl := fun z => by obtain ⟨x, o', e'⟩ := hc b z; rw [n] at e'; cases e'
    exact un.slot b o e (by rw [rem_out hb]; exact n) hf hx
  · have hb : b ∉ adr cl := fun z => by obtain ⟨x, o', e'⟩ := hc b z; rw [n] at e'; cases e'
    rw [back_out hb]
    exact un.free b o e (by rw [rem_out hb]; exact n) hx
  · have hb : b ∉ adr cl := fun z => by obtain ⟨x, o', e'⟩ := hc b z; rw [e] at e'; cases e'
    rw [back_out hb]
    exact un.tups b xs (by rw [rem_out hb]; exact e)
  · by_cases hb : b ∈ adr cl
    · rw [back_in hb]; exact e
    · rw [back_out hb]
      exact un.frzs b o x (by rw [rem_out hb]; exact e)
  · have hb : b ∉ adr cl := fun z => by obtain ⟨x, o', e'⟩ := hc b z; rw [e] at e'; cases e'
    rw [back_out hb]
    exact un.tbls b ps (by rw [rem_out hb]; exact e)
  · by_cases hb : b ∈ adr cl
    · rw [back_in hb] at e
      obtain ⟨o', x, e1, e2, y, ry, d⟩ := kept b hb
      rw [e1] at e
      obtain rfl := Option.some.inj e
      exact celO_ok e2 ry d
    · rw [back_out hb] at e
      have hn : ∀ c, (∃ z, H2 c = some z) → c ∉ adr cl := fun c ⟨z, hz⟩ hcl => by
        obtain ⟨o', x, e1, e2, _⟩ := kept c hcl
        obtain ⟨x', o2, e'⟩ := hc c hcl
        obtain ⟨e3, _⟩ := celO_cell (hok c _ e')
        have := un.free c _ e3 (rem_in hcl) (by simp)
        rw [this] at hz
        cases hz
      exact (ok b o e).stay (fun _ _ _ q => q) (fun c q => by rw [back_out (hn c ⟨_, q⟩)]; exact q) fun c xs q => by rw [back_out (hn c ⟨_, q⟩)]; exact q
end
section
variable {X : Cx} {F : NF} {ps fr : List Str} {f : Addr} {j k : Nat} {sp : List (Option V) → Sp} {pins : List (Addr × Obj)} {σ : L2.St} {H : Hp} {s : Shared} {Q : VK} {us : List Value} {vs : List V} {ws : List (Option V)}
/-- what the cells of F hold, as known things -/
structure Cel (F : NF) (fr : List Str) (ws : List (Option V)) (H : Hp) : Prop where
  len : ws.length = fr.length
  all : ∀ b ∈ adr F.cl, ∃ v, CelH H b v
  inj : ∀ x y c, F.cl.lookup x = some c → F.cl.lookup y = some c → x = y
  has : ∀ (i : Nat) (y : Str), fr[i]? = some y → ∃ c, F.cl.lookup y = some c ∧ ∀ v, ws[i]? = some (some v) → CelH H c v
theorem look_adr {cl : List (Str × Addr)} {y : Str} {c : Addr} (h : cl.lookup y = some c) : c ∈ adr cl := List.mem_map.mpr ⟨(y, c), PySem.mem_of_lookup h, rfl⟩
theorem Cel.at (C : Cel F fr ws H) (hok : HOk X.prog X.w H s.heap) : CellsAt F.cl fr ws s.heap (remC F.cl H) := by
  refine ⟨C.len, fun y c e => ⟨rem_in (look_adr e), ?_⟩, C.inj, fun i y e => ?_⟩
  · obtain ⟨v, o, h⟩ := C.all c (look_adr e)
    obtain ⟨e1, u, _, d⟩ := celO_cell (hok c _ h)
    exact ⟨_, o, e1, d⟩
  · obtain ⟨c, hc, hv⟩ := C.has i y e
    refine ⟨c, hc, fun v ev => ?_⟩
    obtain ⟨o, h⟩ := hv v ev
    obtain ⟨e1, u, ru, d⟩ := celO_cell (hok c _ h)
    exact ⟨u, ru, o, e1, d⟩
theorem run_clo (Fn : NOk X.prog X.w X.K X.mg X.base CX0 k f F ps fr sp) (hr : Room j X.A) (hk : k ≤ j) (I : Inv X pins σ H s) (hf : H f = some (FnO f F)) (hc : H F.c = some (CodeO F.c F.qual)) (C : Cel F fr ws H) (r : Vals vs us)
    (q : sp ws vs (remC F.cl H) (fun v H2 => (∀ b ∈ adr F.cl, H2 b = none) → Q v (backC F.cl H H2)) C8.E0) : wpAny (model X.prog X.w) X.A (call (.ref f) us) (EP X pins σ Q) X.xe s := by
  have e0 := I.env0
  have out : ∀ {a : Addr} {o : HO}, H a = some o → (∀ ob x, o ≠ .frz ob x) → a ∉ adr F.cl := fun e n z => by
    obtain ⟨x, ob, e'⟩ := C.all _ z
    rw [e] at e'
    exact n _ _ (Option.some.inj e')
  have rn : ∀ b, H b = none → remC F.cl H b = none := fun b e => by
    by_cases hb : b ∈ adr F.cl
    · exact rem_in hb
    · rw [rem_out hb]; exact e
  have e1 : Env0 X.prog X.w X.K X.mg X.base X.A X.stack s (remC F.cl H) := ⟨e0.frames, e0.mod, fun b o e => ⟨(e0.bs b o e).1, rn b (e0.bs b o e).2⟩, e0.bsz, e0.funs, fun b hb => rn b (e0.frf b hb), hok_rem e0.hok C.all, e0.bare⟩
  have nf : ∀ b ∈ adr F.cl, b ∉ frs X.stack := fun b hb z => by
    obtain ⟨x, o, e'⟩ := C.all b hb
    rw [e0.frf b z] at e'
    cases e'
  refine wpAny_call (codeAny_mono (Fn.run X.A X.stack s (remC F.cl H) us vs ws _ C8.E0 (hr.mono hk) e1 (by rw [rem_out (out hf (fun _ _ z => by unfold FnO at z; cases z))]; exact hf) (by rw [rem_out (out hc (fun _ _ z => by unfold CodeO at z; cases z))]; exact hc) (C.at e0.hok) r q) fun r s' hq => ?_)
  cases r with
  | error e => exact False.elim hq
  | ok fl =>
    cases fl with
    | ret u => exact I.after (ce_back e0.hok C.all nf hq)
    | next => exact False.elim hq
    | brk => exact False.elim hq
    | cont => exact False.elim hq
/-- a closure's promise, its cells put out of sight for the call -/
def CloC (sp : List (Option V) → Sp) (ws : List (Option V)) (vs : List V) (F : NF) (H : Hp) (Q : VK) : Prop := sp ws vs (remC F.cl H) (fun v H2 => (∀ b ∈ adr F.cl, H2 b = none) → Q v (backC F.cl H H2)) C8.E0
/-- f(..), f a name that holds a closure made elsewhere -/
def tCallP (X : Cx) (j : Nat) (i : Nat) (t : TA) : TE := fun σ H Q => ∃ (f : Addr) (F : NF) (ps fr : List Str) (ws : List (Option V)) (sp : List (Option V) → Sp) (k : Nat), σ[i]? = some (some (.ref f)) ∧ H f = some (FnO f F) ∧ k ≤ j ∧ NOk X.prog X.w X.K X.mg X.base CX0 k f F ps fr sp ∧
  t σ H fun vs H1 => H1 f = some (FnO f F) ∧ H1 F.c = some (CodeO F.c F.qual) ∧ Cel F fr ws H1 ∧ CloC sp ws vs F H1 Q
theorem pe_callP {i : Nat} {x : Str} {t : TA} {e : Expr} {es : List Expr} {p pos : Pos} (hr : Room j X.A) (hN : X.N[i]? = some x) (hv : Vis X.env.scope x) (ha : PA X (e :: es) t)
    (hd : (x == ("__debug__" : Str)) = false := by decide) (hcd : (x == ("__classdict__" : Str)) = false := by decide)
    (he : starEach (e :: es) X.env = (false, eval e X.env) :: starEach es X.env := by rfl) (hpl : (backTo pos (starEach es X.env)).any (·.1) = false := by rfl) :
    PE X (.Call (.Name x p) (e :: es) [] pos) (tCallP X j i t) := by
  refine ⟨fun pins s σ H Q I h => ?_⟩
  obtain ⟨f, F, ps, fr, ws, sp, k, hs, hf, hk, Fn, ht⟩ := h
  refine wpAny_Call_Name_kw (thn ((pe_var (pos := p) hN hv hd hcd).run pins s σ H (fun v H1 => v = .ref f ∧ H1 = H) I ⟨.ref f, hs, rfl, rfl⟩) fun u s1 ⟨v, H1, I1, r1, q1⟩ => ?_)
  obtain ⟨ev, eH⟩ := q1
  subst ev
  rw [eH] at I1
  obtain rfl : u = Value.ref f := r1
  refine PySem.W.callWith_F (first := []) (fnAt_of I1 hf) (thn (ha.run pos pins s1 σ H _ I1 ht) fun us s2 ⟨vs, H2, I2, r, h1, h2, C, q⟩ => ⟨fnAt_of I2 h1, ?_⟩) he hpl
  show wpAny _ _ (call (.ref f) us) _ _ _
  exact run_clo Fn hr hk I2 h1 h2 C r q
end
end Clo
namespace Clo
open PySem PySem.Spec PyProof.Rows L2 LamX NdefX
section
variable {P : Program} {w : World} {H : Hp} {s s' : Shared} {cl : List (Str × Addr)} {outer : List Env} {Q : VK} {u : Value} {g : Addr → V} {os : Addr → Obj}
theorem hok_add (x : HOk P w H s.heap) (n : ∀ b ∈ adr cl, H b = none) (c : ∀ b ∈ adr cl, s.heap.get? b = some (os b) ∧ ∃ u, RelV (g b) u ∧ (os b).data = .cell (some u)) : HOk P w (addC cl g os H) s.heap := fun b o e => by
  by_cases hb : b ∈ adr cl
  · rw [add_in hb] at e
    obtain rfl := Option.some.inj e
    obtain ⟨e1, u, r, d⟩ := c b hb
    exact celO_ok e1 r d
  · rw [add_out hb] at e
    have hn : ∀ c, (∃ z, H c = some z) → c ∉ adr cl := fun c ⟨z, hz⟩ hcl => by rw [n c hcl] at hz; cases hz
    exact (x b o e).stay (fun _ _ _ q => q) (fun c q => by rw [add_out (hn c ⟨_, q⟩)]; exact q) fun c xs q => by rw [add_out (hn c ⟨_, q⟩)]; exact q
/-- behind a call for which the cells were made known -/
theorem ce_rem (n : ∀ b ∈ adr cl, H b = none) (c : ∀ b ∈ adr cl, s.heap.get? b = some (os b)) (nf : ∀ b ∈ adr cl, b ∉ frs outer) (h : CE outer P w (addC cl g os H) s (fun v H2 => Q v (remC cl H2)) u s') : CE outer P w H s Q u s' := by
  obtain ⟨v, H2, os', bare, un, ok, r, q⟩ := h
  have frz : ∀ b ∈ adr cl, H2 b = some (.frz (os b) (CelO b (g b))) := fun b hb => un.frzs b _ _ (add_in hb)
  refine ⟨v, remC cl H2, os', bare, ⟨fun b o e hn hf hx => ?_, fun b o e hn hf hx => ?_, fun b o e hn hx => ?_, fun b o e hx => un.there b o e hx, fun b xs e => ?_, fun b o x e => ?_, fun b ps e => ?_⟩, hok_rem ok fun b hb => ⟨g b, os b, frz b hb⟩, r, q⟩
  · by_cases hb : b ∈ adr cl
    · rw [c b hb] at e
      obtain rfl := Option.some.inj e
      exact (ok b _ (frz b hb)).1
    · exact un.keep b o e (by rw [add_out hb]; exact hn) hf hx
  · have hb : b ∉ adr cl := fun z => nf b z hf
    exact un.slot b o e (by rw [add_out hb]; exact hn) hf hx
  · by_cases hb : b ∈ adr cl
    · exact rem_in hb
    · rw [rem_out hb]
      exact un.free b o e (by rw [add_out hb]; exact hn) hx
  · have hb : b ∉ adr cl := fun z => by rw [n b z] at e; cases e
    rw [rem_out hb]
    exact un.tups b xs (by rw [add_out hb]; exact e)
  · have hb : b ∉ adr cl := fun z => by rw [n b z] at e; cases e
    rw [rem_out hb]
    exact un.frzs b o x (by rw [add_out hb]; exact e)
  · have hb : b ∉ adr cl := fun z => by rw [n b z] at e; cases e
    rw [rem_out hb]
    exact un.tbls b ps (by rw [add_out hb]; exact e)
end
section
variable {X : Cx} {sp : Sp} {pins : List (Addr × Obj)} {σ : L2.St} {H : Hp} {s : Shared} {Q : VK} {us : List Value} {vs : List V} {cl : List (Str × Addr)}
/-- the cells that the running def made and that its closures caught -/
structure Own (X : Cx) (cl : List (Str × Addr)) : Prop where
  sub : ∀ p ∈ cl, X.env.cells.lookup p.1 = some p.2
  kin : ∀ p ∈ cl, X.env.scope.names.lookup p.1 = some .cell
  fn : ∀ p ∈ cl, X.fn p.1 = true
theorem Own.made {X : Cx} {scope : Scope} (ok : X.Ok) (hfree : ∀ y ∈ scope.names, y.2 = .free → X.env.scope.names.lookup y.1 = some .cell ∧ X.fn y.1 = true) : Own X (cloFrom X.env.cells scope.names []) := by
  have key : ∀ p ∈ cloFrom X.env.cells scope.names [], X.env.cells.lookup p.1 = some p.2 ∧ X.env.scope.names.lookup p.1 = some .cell ∧ X.fn p.1 = true := fun p hp => by
    rcases cloFrom_mem (n := p.1) (c := p.2) hp with z | ⟨z, e⟩
    · cases z
    · obtain ⟨h1, h2⟩ := hfree _ z rfl
      obtain ⟨c, hc⟩ := ok.has p.1 (.inl h1)
      refine ⟨?_, h1, h2⟩
      rw [e, hc]; rfl
  exact ⟨fun p hp => (key p hp).1, fun p hp => (key p hp).2.1, fun p hp => (key p hp).2.2⟩
theorem Own.app {X : Cx} {a b : List (Str × Addr)} (h : Own X a) (k : Own X b) : Own X (a ++ b) :=
  ⟨fun p hp => (List.mem_append.mp hp).elim (h.sub p) (k.sub p), fun p hp => (List.mem_append.mp hp).elim (h.kin p) (k.kin p), fun p hp => (List.mem_append.mp hp).elim (h.fn p) (k.fn p)⟩
theorem run_add {x : Str} {f : Addr} {fd : FuncData} {ps : List Str} {ds : List Value} {k : Nat} (O : Own X cl) (F : FnOk X.prog X.w X.K X.mg X.base CX0 k f fd ps sp) (hr : Room k X.A) (hb : L2.Binds X.K fd ps []) (I : Inv X pins σ H s) (r : Vals vs us)
    (gn : Str → V) (hg : ∀ p ∈ cl, ∃ j : Nat, X.N[j]? = some p.1 ∧ σ[j]? = some (some (gn p.1)))
    (h : ∀ (g : Addr → V) (os : Addr → Obj), (∀ p ∈ cl, ∀ p' ∈ cl, p.2 = p'.2 → p.1 = p'.1) → (∀ p ∈ cl, g p.2 = gn p.1) → (∀ b ∈ adr cl, H b = none) → sp vs (addC cl g os H) (fun v H2 => Q v (remC cl H2)) C8.E0) : wpAny (model X.prog X.w) X.A (call (.ref f) us) (EP X pins σ Q) X.xe s := by
  have fr := I.freeC
  have nA : ∀ b ∈ adr cl, H b = none := fun b hb => by
    obtain ⟨p, hp, rfl⟩ := List.mem_map.mp hb
    exact fr p.1 p.2 (O.sub p hp)
  have lo : ∀ b ∈ adr cl, X.s_0.heap.objs.size ≤ b := fun b hb => by
    obtain ⟨p, hp, rfl⟩ := List.mem_map.mp hb
    exact I.ok.cab p.1 p.2 (O.fn p hp) (O.sub p hp)
  let g : Addr → V := fun c => gn ((cl.find? fun p => p.2 == c).map (·.1) |>.getD default)
  have hgn : ∀ p ∈ cl, g p.2 = gn p.1 := fun p hp => by
    show gn _ = gn _
    cases q : cl.find? fun z => z.2 == p.2 with
    | none => exact absurd (List.find?_eq_none.mp q p hp) (by simp)
    | some z =>
      have h1 := List.mem_of_find?_eq_some q
      have h2 : z.2 = p.2 := by have := List.find?_some q; exact eq_of_beq this
      have h3 : z.1 = p.1 := I.ok.inj z.1 p.1 p.2 (by rw [← h2]; exact O.sub z h1) (O.sub p hp)
      show gn z.1 = gn p.1
      rw [h3]
  let os : Addr → Obj := fun b => (s.heap.get? b).getD { cls := .none, data := .fields #[] }
  obtain ⟨m, hns, hl⟩ := id I.loc
  have cell : ∀ b ∈ adr cl, s.heap.get? b = some (os b) ∧ ∃ u, RelV (g b) u ∧ (os b).data = .cell (some u) := fun b hb => by
    obtain ⟨p, hp, rfl⟩ := List.mem_map.mp hb
    obtain ⟨j, h1, h2⟩ := hg p hp
    obtain ⟨u, ru, l⟩ := hl j p.1 _ h1 h2 (.inr (.inl (O.kin p hp)))
    rcases l with ⟨z, _⟩ | ⟨_, c, hc, o, ho, hd⟩
    · have z : X.env.scope.names.lookup p.1 = some .local := z
      rw [O.kin p hp] at z
      cases z
    · rw [O.sub p hp] at hc
      cases hc
      have e : os p.2 = o := by show (s.heap.get? p.2).getD _ = o; rw [ho]; rfl
      rw [e, hgn p hp]
      exact ⟨ho, u, ru, hd⟩
  have e0 := I.env0
  have rn : ∀ b, b ∉ adr cl → H b = none → addC cl g os H b = none := fun b hb e => by rw [add_out hb]; exact e
  have nf : ∀ b ∈ adr cl, b ∉ frs X.stack := fun b hb z => by
    have nfs : b ∉ X.fs := fun y => by
      obtain ⟨_, o, e, _⟩ := I.ok.funs.mem y
      exact absurd (Nat.lt_of_lt_of_le (Heap.lt_size e) (lo b hb)) (Nat.lt_irrefl _)
    rcases I.ok.stk with e | ⟨e, e2⟩
    · rw [e] at z
      exact nfs z
    · rw [e] at z
      have z : b ∈ List.filterMap (·.frame) (X.env :: X.outer) := z
      rw [List.filterMap_cons, e2] at z
      rcases List.mem_cons.mp z with z | z
      · obtain ⟨od, es, ep, eo, ex, ed, _⟩ := hns
        obtain ⟨e1, u, _, d⟩ := cell b hb
        subst z
        rw [eo] at e1
        rw [← Option.some.inj e1, ex] at d
        cases d
      · exact nfs z
  have e1 : Env0 X.prog X.w X.K X.mg X.base X.A X.stack s (addC cl g os H) := ⟨e0.frames, e0.mod, fun b o e => ⟨(e0.bs b o e).1, rn b (fun z => by
      exact absurd (Nat.lt_of_lt_of_le (Heap.lt_size e) (Nat.le_trans I.ok.bsz (lo b z))) (Nat.lt_irrefl _)) (e0.bs b o e).2⟩, e0.bsz, e0.funs, fun b hb => rn b (fun z => nf b z hb) (e0.frf b hb), hok_add e0.hok nA cell, e0.bare⟩
  have q := h g os (fun p hp p' hp' e => I.ok.inj p.1 p'.1 p.2 (O.sub p hp) (by rw [e]; exact O.sub p' hp')) hgn nA
  have hl2 : us.length = ps.length := by rw [← r.length]; exact F.len _ _ _ _ q
  have hb' : BindsTo s fd ⟨us, []⟩ (ps.zip us) := by
    have z := hb s us I.kIn (by rw [List.append_nil]; exact hl2)
    rw [List.append_nil] at z
    exact z
  refine wpAny_call (codeAny_mono (F.run X.A X.stack s (addC cl g os H) ⟨us, []⟩ us vs _ C8.E0 hr e1 hb' r q) fun r s' hq => ?_)
  cases r with
  | error e => exact False.elim hq
  | ok fl =>
    cases fl with
    | ret u => exact I.after (ce_rem nA (fun b hb => (cell b hb).1) nf hq)
    | next => exact False.elim hq
    | brk => exact False.elim hq
    | cont => exact False.elim hq
/-- f(..), closures of this def among the arguments: their cells are known to f -/
def tCallAdd (X : Cx) (cl : List (Str × Addr)) (sp : Sp) (t : TA) : TE := fun σ H Q => t σ H fun vs H1 => ∃ gn : Str → V, (∀ p ∈ cl, ∃ j : Nat, X.N[j]? = some p.1 ∧ σ[j]? = some (some (gn p.1))) ∧
  ∀ (g : Addr → V) (os : Addr → Obj), (∀ p ∈ cl, ∀ p' ∈ cl, p.2 = p'.2 → p.1 = p'.1) → (∀ p ∈ cl, g p.2 = gn p.1) → (∀ b ∈ adr cl, H1 b = none) → sp vs (addC cl g os H1) (fun v H2 => Q v (remC cl H2)) C8.E0
theorem pe_cAdd {x : Str} {k j : Nat} {p pos : Pos} {e : Expr} {es : List Expr} {t : TA} (O : X.Ok → Own X cl) (c : C8.Cal X.prog X.w X.K X.mg X.base k x sp []) (hr : Room j X.A) (hk : k ≤ j) (hg : Gl X x) (ha : PA X (e :: es) t)
    (hdb : (x == ("__debug__" : Str)) = false := by decide) (he : starEach (e :: es) X.env = (false, eval e X.env) :: starEach es X.env := by rfl) (hpl : (backTo pos (starEach es X.env)).any (·.1) = false := by rfl) :
    PE X (.Call (.Name x p) (e :: es) [] pos) (tCallAdd X cl sp t) := by
  obtain ⟨f, fd, ps, ds, F, hm, kp, b, d⟩ := c.ex
  have ed : ds = [] := by cases d; rfl
  subst ed
  refine ⟨fun pins s σ H Q I h => ?_⟩
  refine wpAny_Call_Name_kw (ld_glob I hg hm ?_ hdb)
  refine PySem.W.callWith_K (h₀ := X.base) I.ok.mod.kin kp (thn (ha.run pos pins s σ H _ I h) fun us s1 ⟨vs, H1, I1, r, gn, hgn, q⟩ => ⟨I1.kIn, ?_⟩) he hpl
  exact run_add (x := x) (ds := []) (O I1.ok) F (hr.mono hk) b I1 r gn hgn q
end
end Clo
namespace Clo
open PySem PySem.Spec PyProof.Rows L2 LamX NdefX
/-! ### defs whose code object is told -/
structure FunC (K : PySem.W.Frag) (x qual : Str) (st : Stmt) (f : Addr) (fd : FuncData) (c : Addr) : Prop where
  ex : ∃ (oc : Value) (od : Option Addr) (kV doc pm : Value) (an : Option Addr) (ct : Value) (osl : Array (Option Value)),
    fd = PySem.W.fnOf x qual (defArgs st) (defBody st) (defScope st) .none kV doc pm an (.ref c) ct ∧ K.lookup f = some ⟨oc, od, .func fd, osl⟩ ∧ PySem.W.codeIn K (.ref c) qual = true
  kp : PySem.W.keepIn K (.ref f) = true
structure HasC (K : PySem.W.Frag) (mg : Str → Option Value) (x : Str) (st : Stmt) (ps : List Str) (c : Addr) : Prop where
  ex : ∃ (f : Addr) (fd : FuncData), FunC K x x st f fd c ∧ mg x = some (.ref f) ∧ L2.Binds K fd ps []
theorem func_mk {K : PySem.W.Frag} {x qual : Str} {st : Stmt} {f c : Addr} {oc : Value} {od an : Option Addr} {osl : Array (Option Value)} {kV doc pm ct : Value} (l : K.lookup f = some ⟨oc, od, .func (PySem.W.fnOf x qual (defArgs st) (defBody st) (defScope st) .none kV doc pm an (.ref c) ct), osl⟩)
    (cc : PySem.W.codeIn K (.ref c) qual = true) (k : PySem.W.keepIn K (.ref f) = true) : FunC K x qual st f (PySem.W.fnOf x qual (defArgs st) (defBody st) (defScope st) .none kV doc pm an (.ref c) ct) c := ⟨⟨oc, od, kV, doc, pm, an, ct, osl, rfl, l, cc⟩, k⟩
section
variable {P : Program} {w : World} {K : PySem.W.Frag} {mg : Str → Option Value} {base : Heap}
theorem FunC.ok {x qual : Str} {st : Stmt} {f c : Addr} {fd : FuncData} {N ps : List Str} {k : Nat} {sp : Sp} (F : FunC K x qual st f fd c) (S : FnScope N ps (defScope st)) (len : ∀ vs H Q E, sp vs H Q E → vs.length = ps.length)
    (hbody : ∀ (A : Around) (outer : List Env) (s : Shared) (H : Hp) (vs : List V) (Q : VK) (E : XK), Room k (A.deeper (envOfC qual (defScope st) s.heap.objs.size f (.ref c))) → sp vs H Q E →
      ∃ t, PSs (cxOf CX0 P w K mg base N qual (defScope st) f (.ref c) A outer s H E).nox (defBody st) t ∧ t { nx := fun _ H' => Q .non H', rt := Q } (start N vs) H) : FnOk P w K mg base CX0 (k + 1) f fd ps sp := by
  obtain ⟨oc, od, kV, doc, pm, an, ct, osl, rfl, lk, hcd⟩ := F.ex
  refine fn_of lk hcd S len fun A outer s H vs Q E hr hsp => ?_
  obtain ⟨t, h, q⟩ := hbody A outer s H vs Q E hr hsp
  exact ⟨t, h.nox, q⟩
theorem FunC.okX {x qual : Str} {st : Stmt} {f c : Addr} {fd : FuncData} {N ps : List Str} {k : Nat} {sp : Sp} (F : FunC K x qual st f fd c) (S : FnScope N ps (defScope st)) (len : ∀ vs H Q E, sp vs H Q E → vs.length = ps.length)
    (hbody : ∀ (A : Around) (outer : List Env) (s : Shared) (H : Hp) (vs : List V) (Q : VK) (E : XK), Room k (A.deeper (envOfC qual (defScope st) s.heap.objs.size f (.ref c))) → sp vs H Q E →
      ∃ t, PSs (cxOf (L2.CX P w) P w K mg base N qual (defScope st) f (.ref c) A outer s H E) (defBody st) t ∧ t { nx := fun _ H' => Q .non H', rt := Q } (start N vs) H) : FnOk P w K mg base (L2.CX P w) (k + 1) f fd ps sp := by
  obtain ⟨oc, od, kV, doc, pm, an, ct, osl, rfl, lk, hcd⟩ := F.ex
  exact fn_of lk hcd S len fun A outer s H vs Q E hr hsp => hbody A outer s H vs Q E hr hsp
end
/-- where the code object c keeps the code objects of the defs in its def -/
def codeTab (K : PySem.W.Frag) (c : Addr) : Option Addr := match K.lookup c with
  | some ⟨.type "code", _, .fields vs, _⟩ => (match (vs[11]? : Option Value) with
    | some (.ref P) => some P
    | _ => none)
  | _ => none
/-! ### closures made -/
theorem clo_free {N ps fr : List Str} {sc : Scope} (S : CScope N ps fr sc) {cells : List (Str × Addr)} {y : Str} {c : Addr} (h : (cloFrom cells sc.names []).lookup y = some c) : sc.names.lookup y = some .free := by
  rcases cloFrom_mem (PySem.mem_of_lookup h) with z | ⟨z, _⟩
  · cases z
  · exact S.uq _ z
section
variable {X : Cx}
theorem Own.made2 {scope sc : Scope} (hs : X.env.scope = sc) (hfn : ∀ x, X.fn x = true) (h : (scope.names.all fun y => !decide (y.2 = .free) || decide (sc.names.lookup y.1 = some .cell)) = true) (ok : X.Ok) : Own X (cloFrom X.env.cells scope.names []) :=
  Own.made ok fun y hy e => by
    have := List.all_eq_true.mp h y hy
    rw [hs]
    refine ⟨?_, hfn _⟩
    rw [e] at this
    simpa using this
/-- def name(..) in a def -/
theorem ps_nd {T : List NTab} {nm : Nat → Nat → Str} {c P : Addr} {name : Str} {st : Stmt} {sc : Scope} {pos : Pos} {i : Nat} (TB : TabB X.base X.mg c P) (hst : st = .FunctionDef name (C8.fnArgs st) (C8.fnBody st) [] none [] (C8.fnScope st) none name pos) (hcode : X.env.code = .ref c) (hm : (P, nm) ∈ T)
    (hn : nm pos.line pos.col = X.env.qual ++ name) (hu : ∀ p ∈ T, p.1 = P → p.2 = nm) (hs : X.env.scope = sc) (hfree : ((C8.fnScope st).names.all fun y => !decide (y.2 = .free) || decide (sc.names.lookup y.1 = some .cell)) = true) (hd0 : (C8.fnArgs st).defaults = []) (hk0 : (C8.fnArgs st).kw_defaults = [])
    (ha : annTrees (C8.fnArgs st) none X.env = []) (hN : X.N.Nodup) (hi : X.N[i]? = some name) (hx : Loc X.env.scope name) (hf : X.fn name = true ∨ X.env.scope.names.lookup name = some .local) :
    PS X st (tNdefM T i (NF.of st name (X.env.qual ++ name) (cloFrom X.env.cells (C8.fnScope st).names []))) :=
  ps_ndefMS hst TB hcode hm hn hu (fun y hy e => by
    have := List.all_eq_true.mp hfree y hy
    rw [hs]
    rw [e] at this
    exact .inl (by simpa using this)) hd0 hk0 ha hN hi hx hf
end
/-! ### what is known of the cells of a closure -/
theorem cel_of {F : NF} {fr : List Str} {cl : List (Str × Addr)} {g : Addr → V} {os : Addr → Obj} {gn : Str → V} {H : Hp} {cells : List (Str × Addr)} {names : List (Str × NameKind)} (hF : F.cl = cloFrom cells names []) (hfr : ∀ y ∈ fr, (y, NameKind.free) ∈ names) (sub : ∀ p ∈ F.cl, p ∈ cl)
    (inj : ∀ p ∈ cl, ∀ p' ∈ cl, p.2 = p'.2 → p.1 = p'.1) (hg : ∀ p ∈ cl, g p.2 = gn p.1) : Cel F fr (fr.map fun y => some (gn y)) (addC cl g os H) := by
  have inn : ∀ {y : Str} {c : Addr}, F.cl.lookup y = some c → (y, c) ∈ cl := fun e => sub _ (PySem.mem_of_lookup e)
  have cel : ∀ {y : Str} {c : Addr}, (y, c) ∈ cl → CelH (addC cl g os H) c (gn y) := fun {y c} h => by
    refine ⟨os c, ?_⟩
    rw [add_in (List.mem_map.mpr ⟨(y, c), h, rfl⟩), hg (y, c) h]
  refine ⟨List.length_map _, fun b hb => ?_, fun x y c h1 h2 => inj (x, c) (inn h1) (y, c) (inn h2) rfl, fun i y e => ?_⟩
  · obtain ⟨p, hp, rfl⟩ := List.mem_map.mp hb
    exact ⟨_, cel (y := p.1) (sub p hp)⟩
  · have hm := cloFrom_has (cells := cells) (acc := []) (hfr y (List.mem_of_getElem? e))
    rw [← hF] at hm
    obtain ⟨c, hc⟩ := mem_lookup hm
    refine ⟨c, hc, fun v ev => ?_⟩
    rw [List.getElem?_map, e] at ev
    have ev : some (gn y) = some v := Option.some.inj ev
    rw [← Option.some.inj ev]
    exact cel (inn hc)
theorem Cel.ext {F : NF} {fr : List Str} {ws : List (Option V)} {H H' : Hp} (C : Cel F fr ws H) (s : ∀ b o, H b = some o → H' b = some o) : Cel F fr ws H' :=
  ⟨C.len, fun b hb => let ⟨v, o, e⟩ := C.all b hb; ⟨v, o, s _ _ e⟩, C.inj, fun i y e => let ⟨c, h1, h2⟩ := C.has i y e; ⟨c, h1, fun v ev => let ⟨o, e⟩ := h2 v ev; ⟨o, s _ _ e⟩⟩⟩
/-- the heap without tables -/
def nt (H : Hp) : Hp := fun b => match H b with
  | some (.tbl _) => none
  | x => x
theorem nt_of {H : Hp} {b : Addr} {o : HO} (h : nt H b = some o) : H b = some o ∧ ∀ ps, o ≠ .tbl ps := by
  unfold nt at h
  split at h
  · cases h
  · rename_i x hx
    refine ⟨h, fun ps e => ?_⟩
    rw [e] at h
    exact hx ps h
theorem nt_get {H : Hp} {b : Addr} {o : HO} (h : H b = some o) (n : ∀ ps, o ≠ .tbl ps) : nt H b = some o := by
  unfold nt
  rw [h]
  cases o with
  | tbl ps => exact absurd rfl (n ps)
  | _ => rfl
theorem rem_keep {cl : List (Str × Addr)} {H2 : Hp} (hc : ∀ b ∈ adr cl, ∃ o x, H2 b = some (.frz o x)) {b : Addr} {o : HO} (h : H2 b = some o) (n : ∀ ob x, o ≠ .frz ob x) : remC cl H2 b = some o := by
  rw [rem_out fun z => ?_]
  · exact h
  · obtain ⟨ob, x, e⟩ := hc b z
    rw [h] at e
    exact n _ _ (Option.some.inj e)
theorem add_frz {cl : List (Str × Addr)} {g : Addr → V} {os : Addr → Obj} {H1 H2 : Hp} (s : ∀ b o, addC cl g os H1 b = some o → H2 b = some o) : ∀ b ∈ adr cl, ∃ o x, H2 b = some (.frz o x) := fun b hb => ⟨_, _, s _ _ (add_in hb)⟩
theorem add_keep {cl : List (Str × Addr)} {g : Addr → V} {os : Addr → Obj} {H1 : Hp} (n : ∀ b ∈ adr cl, H1 b = none) : ∀ b o, H1 b = some o → addC cl g os H1 b = some o := fun b o e => by
  rw [add_out fun z => ?_]
  · exact e
  · rw [n b z] at e; cases e
theorem add_same {cl : List (Str × Addr)} {g : Addr → V} {os : Addr → Obj} {H1 H2 : Hp} (n : ∀ b ∈ adr cl, H1 b = none) (s : ∀ b o, addC cl g os H1 b = some o → H2 b = some o) : ∀ b o, H1 b = some o → remC cl H2 b = some o := fun b o e => by
  rw [rem_out fun z => ?_]
  · exact s _ _ (add_keep n b o e)
  · rw [n b z] at e; cases e
theorem Cel.keep {F : NF} {fr : List Str} {ws : List (Option V)} {H : Hp} (C : Cel F fr ws H) {b : Addr} {o : HO} (h : H b = some o) (n : ∀ ob x, o ≠ .frz ob x) : remC F.cl H b = some o := by
  rw [rem_out fun z => ?_]
  · exact h
  · obtain ⟨v, ob, e⟩ := C.all b z
    rw [h] at e
    exact n _ _ (Option.some.inj e)
theorem Cel.back {F : NF} {fr : List Str} {ws : List (Option V)} {H H2 : Hp} (C : Cel F fr ws H) (s : ∀ b o, remC F.cl H b = some o → H2 b = some o) : ∀ b o, H b = some o → backC F.cl H H2 b = some o := fun b o e => by
  by_cases z : b ∈ adr F.cl
  · rw [back_in z]; exact e
  · rw [back_out z]; exact s _ _ (by rw [rem_out z]; exact e)
theorem back_new {cl : List (Str × Addr)} {H H2 : Hp} (n : ∀ b ∈ adr cl, H2 b = none) {b : Addr} {o : HO} (h : H2 b = some o) : backC cl H H2 b = some o := by
  rw [back_out fun z => ?_]
  · exact h
  · rw [n b z] at h; cases h
theorem ExtN.nt {H H' : Hp} (e : ExtN H H') : ∀ b o, Clo.nt H b = some o → H' b = some o := fun b o h => e b o (nt_of h).1 (nt_of h).2
end Clo
namespace Gk
/-! expressions, their words, and their places -/
inductive Ex where
  | none
  | empty
  | let_ (a : Int)
  | star (e : Ex)
  | join (e f : Ex)
  | alt (e f : Ex)
inductive Lg : Ex → List Int → Prop
  | empty : Lg .empty []
  | let_ (a : Int) : Lg (.let_ a) [a]
  | star0 (e : Ex) : Lg (.star e) []
  | starS {e : Ex} {u v : List Int} : Lg e u → Lg (.star e) v → Lg (.star e) (u ++ v)
  | join {e f : Ex} {u v : List Int} : Lg e u → Lg f v → Lg (.join e f) (u ++ v)
  | altL {e f : Ex} {u : List Int} : Lg e u → Lg (.alt e f) u
  | altR {e f : Ex} {u : List Int} : Lg f u → Lg (.alt e f) u
def nul : Ex → Bool
  | .none => false
  | .empty => true
  | .let_ _ => false
  | .star _ => true
  | .join e f => nul e && nul f
  | .alt e f => nul e || nul f
theorem nul_of {e : Ex} {w : List Int} (h : Lg e w) : w = [] → nul e = true := by
  induction h with
  | empty => intro _; rfl
  | let_ a => intro h; cases h
  | star0 e => intro _; rfl
  | starS _ _ _ _ => intro _; rfl
  | join h1 h2 i1 i2 =>
    intro h
    have := List.append_eq_nil_iff.mp h
    show (nul _ && nul _) = true
    rw [i1 this.1, i2 this.2]; rfl
  | altL _ ih => intro h; show (nul _ || nul _) = true; rw [ih h]; rfl
  | altR _ ih => intro h; show (nul _ || nul _) = true; rw [ih h, Bool.or_true]
theorem of_nul : ∀ {e : Ex}, nul e = true → Lg e []
  | .none, h => by cases h
  | .empty, _ => .empty
  | .let_ _, h => by cases h
  | .star e, _ => .star0 e
  | .join e f, h => by
    have h : (nul e && nul f) = true := h
    rw [Bool.and_eq_true] at h
    exact .join (u := []) (v := []) (of_nul h.1) (of_nul h.2)
  | .alt e f, h => by
    have h : (nul e || nul f) = true := h
    rw [Bool.or_eq_true] at h
    rcases h with h | h
    · exact .altL (of_nul h)
    · exact .altR (of_nul h)
def lt : Ex → List Int
  | .none => []
  | .empty => []
  | .let_ a => [a]
  | .star e => lt e
  | .join e f => lt e ++ lt f
  | .alt e f => lt e ++ lt f
def np (e : Ex) : Nat := (lt e).length
def fs : Ex → Nat → Bool
  | .none, _ => false
  | .empty, _ => false
  | .let_ _, i => decide (i = 0)
  | .star e, i => fs e i
  | .join e f, i => fs e i || (nul e && (decide (np e ≤ i) && fs f (i - np e)))
  | .alt e f, i => fs e i || (decide (np e ≤ i) && fs f (i - np e))
def la : Ex → Nat → Bool
  | .none, _ => false
  | .empty, _ => false
  | .let_ _, i => decide (i = 0)
  | .star e, i => la e i
  | .join e f, i => (decide (np e ≤ i) && la f (i - np e)) || (nul f && la e i)
  | .alt e f, i => la e i || (decide (np e ≤ i) && la f (i - np e))
def fo : Ex → Nat → Nat → Bool
  | .none, _, _ => false
  | .empty, _, _ => false
  | .let_ _, _, _ => false
  | .star e, i, j => fo e i j || (la e i && fs e j)
  | .join e f, i, j => (fo e i j || (decide (np e ≤ i ∧ np e ≤ j) && fo f (i - np e) (j - np e))) || (la e i && (decide (np e ≤ j) && fs f (j - np e)))
  | .alt e f, i, j => fo e i j || (decide (np e ≤ i ∧ np e ≤ j) && fo f (i - np e) (j - np e))
theorem np_join (e f : Ex) : np (.join e f) = np e + np f := by unfold np; show (lt e ++ lt f).length = _; rw [List.length_append]
theorem np_alt (e f : Ex) : np (.alt e f) = np e + np f := by unfold np; show (lt e ++ lt f).length = _; rw [List.length_append]
theorem fs_lt : ∀ {e : Ex} {i : Nat}, fs e i = true → i < np e
  | .none, _, h => by cases h
  | .empty, _, h => by cases h
  | .let_ _, i, h => by have := of_decide_eq_true h; subst this; exact Nat.zero_lt_one
  | .star e, i, h => fs_lt (e := e) h
  | .join e f, i, h => by
    have h : (fs e i || (nul e && (decide (np e ≤ i) && fs f (i - np e)))) = true := h
    rw [np_join]
    rw [Bool.or_eq_true, Bool.and_eq_true, Bool.and_eq_true, decide_eq_true_iff] at h
    rcases h with h | ⟨_, h1, h2⟩
    · have := fs_lt h; omega
    · have := fs_lt h2; omega
  | .alt e f, i, h => by
    have h : (fs e i || (decide (np e ≤ i) && fs f (i - np e))) = true := h
    rw [np_alt]
    rw [Bool.or_eq_true, Bool.and_eq_true, decide_eq_true_iff] at h
    rcases h with h | ⟨h1, h2⟩
    · have := fs_lt h; omega
    · have := fs_lt h2; omega
theorem la_lt : ∀ {e : Ex} {i : Nat}, la e i = true → i < np e
  | .none, _, h => by cases h
  | .empty, _, h => by cases h
  | .let_ _, i, h => by have := of_decide_eq_true h; subst this; exact Nat.zero_lt_one
  | .star e, i, h => la_lt (e := e) h
  | .join e f, i, h => by
    have h : ((decide (np e ≤ i) && la f (i - np e)) || (nul f && la e i)) = true := h
    rw [np_join]
    rw [Bool.or_eq_true, Bool.and_eq_true, Bool.and_eq_true, decide_eq_true_iff] at h
    rcases h with ⟨h1, h2⟩ | ⟨_, h⟩
    · have := la_lt h2; omega
    · have := la_lt h; omega
  | .alt e f, i, h => by
    have h : (la e i || (decide (np e ≤ i) && la f (i - np e))) = true := h
    rw [np_alt]
    rw [Bool.or_eq_true, Bool.and_eq_true, decide_eq_true_iff] at h
    rcases h with h | ⟨h1, h2⟩
    · have := la_lt h; omega
    · have := la_lt h2; omega
theorem fo_lt : ∀ {e : Ex} {i j : Nat}, fo e i j = true → i < np e ∧ j < np e
  | .none, _, _, h => by cases h
  | .empty, _, _, h => by cases h
  | .let_ _, _, _, h => by cases h
  | .star e, i, j, h => by
    have h : (fo e i j || (la e i && fs e j)) = true := h
    rw [Bool.or_eq_true, Bool.and_eq_true] at h
    rcases h with h | ⟨h1, h2⟩
    · exact fo_lt (e := e) h
    · exact ⟨la_lt (e := e) h1, fs_lt (e := e) h2⟩
  | .join e f, i, j, h => by
    have h : ((fo e i j || (decide (np e ≤ i ∧ np e ≤ j) && fo f (i - np e) (j - np e))) || (la e i && (decide (np e ≤ j) && fs f (j - np e)))) = true := h
    rw [np_join]
    rw [Bool.or_eq_true, Bool.or_eq_true, Bool.and_eq_true, Bool.and_eq_true, Bool.and_eq_true, decide_eq_true_iff, decide_eq_true_iff] at h
    rcases h with (h | ⟨h1, h2⟩) | ⟨h1, h2, h3⟩
    · have := fo_lt h; omega
    · have := fo_lt h2; omega
    · have a := la_lt h1; have b := fs_lt h3; omega
  | .alt e f, i, j, h => by
    have h : (fo e i j || (decide (np e ≤ i ∧ np e ≤ j) && fo f (i - np e) (j - np e))) = true := h
    rw [np_alt]
    rw [Bool.or_eq_true, Bool.and_eq_true, decide_eq_true_iff] at h
    rcases h with h | ⟨h1, h2⟩
    · have := fo_lt h; omega
    · have := fo_lt h2; omega
/-- from a place that was read, reading on, to a place -/
inductive Wy (e : Ex) : Nat → List Int → Nat → Prop
  | nil (p : Nat) : Wy e p [] p
  | cons {p q r : Nat} {a : Int} {w : List Int} : fo e p q = true → (lt e)[q]? = some a → Wy e q w r → Wy e p (a :: w) r
theorem Wy.snoc {e : Ex} {p q r : Nat} {w : List Int} {a : Int} (h : Wy e p w q) (k : fo e q r = true) (l : (lt e)[r]? = some a) : Wy e p (w ++ [a]) r := by
  induction h with
  | nil p => exact .cons k l (.nil _)
  | cons x y _ ih => exact .cons x y (ih k)
theorem Wy.trans {e : Ex} {p q r : Nat} {w u : List Int} (h : Wy e p w q) (k : Wy e q u r) : Wy e p (w ++ u) r := by
  induction h with
  | nil p => exact k
  | cons x y _ ih => exact .cons x y (ih k)
/-- a word that is not empty, read from a first place to a last one -/
def Ac (e : Ex) (w : List Int) : Prop := ∃ a u p q, w = a :: u ∧ fs e p = true ∧ (lt e)[p]? = some a ∧ Wy e p u q ∧ la e q = true
theorem Ac.ne {e : Ex} {w : List Int} (h : Ac e w) : w ≠ [] := by
  obtain ⟨a, u, _, _, rfl, _⟩ := h
  exact fun z => by cases z
theorem b_or1 {a b : Bool} (h : a = true) : (a || b) = true := by rw [h]; rfl
theorem b_or2 {a b : Bool} (h : b = true) : (a || b) = true := by rw [h]; exact Bool.or_true a
theorem b_and {a b : Bool} (h : a = true) (k : b = true) : (a && b) = true := by rw [h, k]; rfl
theorem lt_star (e : Ex) : lt (.star e) = lt e := rfl
theorem wy_star {e : Ex} {p q : Nat} {w : List Int} (h : Wy e p w q) : Wy (.star e) p w q := by
  induction h with
  | nil p => exact .nil p
  | cons x y _ ih => exact .cons (b_or1 x) y ih
theorem getL {e f : Ex} {q : Nat} {a : Int} (h : (lt e)[q]? = some a) : (lt e ++ lt f)[q]? = some a := by
  rw [List.getElem?_append_left (List.getElem?_eq_some_iff.mp h).1]; exact h
theorem getR {e f : Ex} {q : Nat} {a : Int} (h : (lt f)[q]? = some a) : (lt e ++ lt f)[np e + q]? = some a := by
  unfold np
  rw [List.getElem?_append_right (Nat.le_add_right _ _), Nat.add_sub_cancel_left]; exact h
theorem wy_joinL {e f : Ex} {p q : Nat} {w : List Int} (h : Wy e p w q) : Wy (.join e f) p w q := by
  induction h with
  | nil p => exact .nil p
  | cons x y _ ih => exact .cons (b_or1 (b_or1 x)) (getL y) ih
theorem wy_joinR {e f : Ex} {p q : Nat} {w : List Int} (h : Wy f p w q) : Wy (.join e f) (np e + p) w (np e + q) := by
  induction h with
  | nil p => exact .nil _
  | cons x y _ ih => exact .cons (b_or1 (b_or2 (b_and (decide_eq_true ⟨Nat.le_add_right _ _, Nat.le_add_right _ _⟩) (by rw [Nat.add_sub_cancel_left, Nat.add_sub_cancel_left]; exact x)))) (getR y) ih
theorem wy_altL {e f : Ex} {p q : Nat} {w : List Int} (h : Wy e p w q) : Wy (.alt e f) p w q := by
  induction h with
  | nil p => exact .nil p
  | cons x y _ ih => exact .cons (b_or1 x) (getL y) ih
theorem wy_altR {e f : Ex} {p q : Nat} {w : List Int} (h : Wy f p w q) : Wy (.alt e f) (np e + p) w (np e + q) := by
  induction h with
  | nil p => exact .nil _
  | cons x y _ ih => exact .cons (b_or2 (b_and (decide_eq_true ⟨Nat.le_add_right _ _, Nat.le_add_right _ _⟩) (by rw [Nat.add_sub_cancel_left, Nat.add_sub_cancel_left]; exact x))) (getR y) ih
theorem ac_of {e : Ex} {w : List Int} (h : Lg e w) : w ≠ [] → Ac e w := by
  induction h with
  | empty => exact fun h => absurd rfl h
  | let_ a => exact fun _ => ⟨a, [], 0, 0, rfl, rfl, rfl, .nil 0, rfl⟩
  | star0 e => exact fun h => absurd rfl h
  | @starS e u v h1 h2 i1 i2 =>
    intro hne
    by_cases hu : u = []
    · subst hu
      exact i2 hne
    obtain ⟨a, u', p, q, rfl, k1, k2, k3, k4⟩ := i1 hu
    by_cases hv : v = []
    · subst hv
      rw [List.append_nil]
      exact ⟨a, u', p, q, rfl, k1, k2, wy_star k3, k4⟩
    obtain ⟨b, v', p', q', rfl, l1, l2, l3, l4⟩ := i2 hv
    exact ⟨a, u' ++ b :: v', p, q', rfl, k1, k2, (wy_star k3).trans (.cons (b_or2 (b_and k4 l1)) l2 l3), l4⟩
  | @join e f u v h1 h2 i1 i2 =>
    intro hne
    by_cases hu : u = []
    · subst hu
      obtain ⟨b, v', p', q', rfl, l1, l2, l3, l4⟩ := i2 (by simpa using hne)
      exact ⟨b, v', np e + p', np e + q', rfl, b_or2 (b_and (nul_of h1 rfl) (b_and (decide_eq_true (Nat.le_add_right _ _)) (by rw [Nat.add_sub_cancel_left]; exact l1))), getR l2, wy_joinR l3, b_or1 (b_and (decide_eq_true (Nat.le_add_right _ _)) (by rw [Nat.add_sub_cancel_left]; exact l4))⟩
    obtain ⟨a, u', p, q, rfl, k1, k2, k3, k4⟩ := i1 hu
    by_cases hv : v = []
    · subst hv
      rw [List.append_nil]
      exact ⟨a, u', p, q, rfl, b_or1 k1, getL k2, wy_joinL k3, b_or2 (b_and (nul_of h2 rfl) k4)⟩
    obtain ⟨b, v', p', q', rfl, l1, l2, l3, l4⟩ := i2 hv
    exact ⟨a, u' ++ b :: v', p, np e + q', rfl, b_or1 k1, getL k2, (wy_joinL k3).trans (.cons (b_or2 (b_and k4 (b_and (decide_eq_true (Nat.le_add_right _ _)) (by rw [Nat.add_sub_cancel_left]; exact l1)))) (getR l2) (wy_joinR l3)), b_or1 (b_and (decide_eq_true (Nat.le_add_right _ _)) (by rw [Nat.add_sub_cancel_left]; exact l4))⟩
  | @altL e f u h ih =>
    intro hne
    obtain ⟨a, u', p, q, rfl, k1, k2, k3, k4⟩ := ih hne
    exact ⟨a, u', p, q, rfl, b_or1 k1, getL k2, wy_altL k3, b_or1 k4⟩
  | @altR e f u h ih =>
    intro hne
    obtain ⟨a, u', p, q, rfl, k1, k2, k3, k4⟩ := ih hne
    exact ⟨a, u', np e + p, np e + q, rfl, b_or2 (b_and (decide_eq_true (Nat.le_add_right _ _)) (by rw [Nat.add_sub_cancel_left]; exact k1)), getR k2, wy_altR k3, b_or2 (b_and (decide_eq_true (Nat.le_add_right _ _)) (by rw [Nat.add_sub_cancel_left]; exact k4))⟩
/-- a way in a star, cut where it begins anew -/
theorem wy_cut {e : Ex} {p q : Nat} {w : List Int} (h : Wy (.star e) p w q) : la e q = true → ∃ u v p', w = u ++ v ∧ Wy e p u p' ∧ la e p' = true ∧ (v = [] ∨ Ac (.star e) v) := by
  induction h with
  | nil p => exact fun k => ⟨[], [], p, rfl, .nil p, k, .inl rfl⟩
  | @cons p q r a w x y z ih =>
    intro k
    have x : (fo e p q || (la e p && fs e q)) = true := x
    rw [Bool.or_eq_true, Bool.and_eq_true] at x
    rcases x with x | ⟨x1, x2⟩
    · obtain ⟨u, v, p', rfl, h1, h2, h3⟩ := ih k
      exact ⟨a :: u, v, p', rfl, .cons x y h1, h2, h3⟩
    · exact ⟨[], a :: w, p, rfl, .nil p, x1, .inr ⟨a, w, q, r, rfl, x2, y, z, k⟩⟩
/-- a way in a join that begins on the left -/
theorem wy_join_cut {e f : Ex} {p q : Nat} {w : List Int} (h : Wy (.join e f) p w q) : p < np e → (q < np e ∧ Wy e p w q) ∨ ∃ u v p' r b v', w = u ++ v ∧ Wy e p u p' ∧ la e p' = true ∧ v = b :: v' ∧ fs f r = true ∧ (lt f)[r]? = some b ∧ ∃ q', q = np e + q' ∧ Wy f r v' q' := by
  have right : ∀ {p q : Nat} {w : List Int}, Wy (.join e f) p w q → np e ≤ p → ∃ q', q = np e + q' ∧ Wy f (p - np e) w q' := by
    intro p q w h
    induction h with
    | nil p => exact fun hp => ⟨p - np e, by omega, .nil _⟩
    | @cons p q r a w x y z ih =>
      intro hp
      have x : ((fo e p q || (decide (np e ≤ p ∧ np e ≤ q) && fo f (p - np e) (q - np e))) || (la e p && (decide (np e ≤ q) && fs f (q - np e)))) = true := x
      rw [Bool.or_eq_true, Bool.or_eq_true, Bool.and_eq_true, Bool.and_eq_true, Bool.and_eq_true, decide_eq_true_iff, decide_eq_true_iff] at x
      rcases x with (x | ⟨x1, x2⟩) | ⟨x1, x2, x3⟩
      · have := fo_lt x; omega
      · obtain ⟨q', e1, h1⟩ := ih x1.2
        refine ⟨q', e1, .cons x2 ?_ h1⟩
        have y : (lt e ++ lt f)[q]? = some a := y
        rw [List.getElem?_append_right x1.2] at y
        exact y
      · have := la_lt x1; omega
  induction h with
  | nil p => exact fun hp => .inl ⟨hp, .nil p⟩
  | @cons p q r a w x y z ih =>
    intro hp
    have x : ((fo e p q || (decide (np e ≤ p ∧ np e ≤ q) && fo f (p - np e) (q - np e))) || (la e p && (decide (np e ≤ q) && fs f (q - np e)))) = true := x
    have y : (lt e ++ lt f)[q]? = some a := y
    rw [Bool.or_eq_true, Bool.or_eq_true, Bool.and_eq_true, Bool.and_eq_true, Bool.and_eq_true, decide_eq_true_iff, decide_eq_true_iff] at x
    rcases x with (x | ⟨x1, x2⟩) | ⟨x1, x2, x3⟩
    · have hq := (fo_lt x).2
      have y' : (lt e)[q]? = some a := by rw [List.getElem?_append_left hq] at y; exact y
      rcases ih hq with ⟨h1, h2⟩ | ⟨u, v, p', r', b, v', h1, h2, h3, h4⟩
      · exact .inl ⟨h1, .cons x y' h2⟩
      · exact .inr ⟨a :: u, v, p', r', b, v', by rw [h1]; rfl, .cons x y' h2, h3, h4⟩
    · omega
    · obtain ⟨q', e1, h1⟩ := right z x2
      rw [List.getElem?_append_right x2] at y
      exact .inr ⟨[], a :: w, p, q - np e, a, w, rfl, .nil p, x1, rfl, x3, y, q', e1, h1⟩
theorem wy_join_right {e f : Ex} {p q : Nat} {w : List Int} (h : Wy (.join e f) p w q) : np e ≤ p → ∃ q', q = np e + q' ∧ Wy f (p - np e) w q' := by
  induction h with
  | nil p => exact fun hp => ⟨p - np e, by omega, .nil _⟩
  | @cons p q r a w x y z ih =>
    intro hp
    have x : ((fo e p q || (decide (np e ≤ p ∧ np e ≤ q) && fo f (p - np e) (q - np e))) || (la e p && (decide (np e ≤ q) && fs f (q - np e)))) = true := x
    rw [Bool.or_eq_true, Bool.or_eq_true, Bool.and_eq_true, Bool.and_eq_true, Bool.and_eq_true, decide_eq_true_iff, decide_eq_true_iff] at x
    rcases x with (x | ⟨x1, x2⟩) | ⟨x1, x2, x3⟩
    · have := fo_lt x; omega
    · obtain ⟨q', e1, h1⟩ := ih x1.2
      refine ⟨q', e1, .cons x2 ?_ h1⟩
      have y : (lt e ++ lt f)[q]? = some a := y
      rw [List.getElem?_append_right x1.2] at y
      exact y
    · have := la_lt x1; omega
theorem wy_alt {e f : Ex} {p q : Nat} {w : List Int} (h : Wy (.alt e f) p w q) : (p < np e → q < np e ∧ Wy e p w q) ∧ (np e ≤ p → ∃ q', q = np e + q' ∧ Wy f (p - np e) w q') := by
  induction h with
  | nil p => exact ⟨fun h => ⟨h, .nil p⟩, fun h => ⟨p - np e, by omega, .nil _⟩⟩
  | @cons p q r a w x y z ih =>
    have x : (fo e p q || (decide (np e ≤ p ∧ np e ≤ q) && fo f (p - np e) (q - np e))) = true := x
    have y : (lt e ++ lt f)[q]? = some a := y
    rw [Bool.or_eq_true, Bool.and_eq_true, decide_eq_true_iff] at x
    constructor
    · intro hp
      rcases x with x | ⟨x1, _⟩
      · have hq := (fo_lt x).2
        obtain ⟨h1, h2⟩ := ih.1 hq
        refine ⟨h1, .cons x ?_ h2⟩
        rw [List.getElem?_append_left hq] at y
        exact y
      · omega
    · intro hp
      rcases x with x | ⟨x1, x2⟩
      · have := (fo_lt x).1; omega
      · obtain ⟨q', e1, h1⟩ := ih.2 x1.2
        refine ⟨q', e1, .cons x2 ?_ h1⟩
        rw [List.getElem?_append_right x1.2] at y
        exact y
theorem of_ac : ∀ {e : Ex} {w : List Int}, Ac e w → Lg e w
  | .none, w, ⟨_, _, _, _, _, h, _⟩ => by cases h
  | .empty, w, ⟨_, _, _, _, _, h, _⟩ => by cases h
  | .let_ b, w, ⟨a, u, p, q, e1, h1, h2, h3, h4⟩ => by
    have h1 := of_decide_eq_true h1
    subst h1
    have : b = a := Option.some.inj h2
    subst this
    cases h3 with
    | nil _ => rw [e1]; exact .let_ b
    | cons x _ _ => cases x
  | .star e, w, h => by
    have key : ∀ n, ∀ w : List Int, w.length ≤ n → Ac (.star e) w → Lg (.star e) w := by
      intro n
      induction n with
      | zero =>
        rintro w hw ⟨a, u, p, q, rfl, _⟩
        simp at hw
      | succ n ih =>
        rintro w hw ⟨a, u, p, q, rfl, h1, h2, h3, h4⟩
        obtain ⟨u1, v, p', rfl, k1, k2, k3⟩ := wy_cut h3 h4
        have l1 : Lg e (a :: u1) := of_ac ⟨a, u1, p, p', rfl, h1, h2, k1, k2⟩
        have : Lg (.star e) v := by
          rcases k3 with rfl | k3
          · exact .star0 e
          · refine ih v ?_ k3
            simp only [List.length_cons, List.length_append] at hw
            omega
        exact .starS (u := a :: u1) l1 this
    exact key _ w (Nat.le_refl _) h
  | .join e f, w, ⟨a, u, p, q, e1, h1, h2, h3, h4⟩ => by
    have h1 : (fs e p || (nul e && (decide (np e ≤ p) && fs f (p - np e)))) = true := h1
    have h2 : (lt e ++ lt f)[p]? = some a := h2
    have h4 : ((decide (np e ≤ q) && la f (q - np e)) || (nul f && la e q)) = true := h4
    rw [Bool.or_eq_true, Bool.and_eq_true, Bool.and_eq_true, decide_eq_true_iff] at h1 h4
    subst e1
    rcases h1 with h1 | ⟨n1, n2, n3⟩
    · have hp := fs_lt h1
      rw [List.getElem?_append_left hp] at h2
      rcases wy_join_cut h3 hp with ⟨hq, k⟩ | ⟨u1, v, p', r, b, v', rfl, k1, k2, rfl, k4, k5, q', rfl, k6⟩
      · rcases h4 with ⟨h4, _⟩ | ⟨h4, h5⟩
        · omega
        · have := Lg.join (of_ac (e := e) ⟨a, u, p, q, rfl, h1, h2, k, h5⟩) (of_nul h4)
          rwa [List.append_nil] at this
      · rcases h4 with ⟨_, h4⟩ | ⟨_, h4⟩
        · rw [Nat.add_sub_cancel_left] at h4
          exact Lg.join (u := a :: u1) (of_ac ⟨a, u1, p, p', rfl, h1, h2, k1, k2⟩) (of_ac ⟨b, v', r, q', rfl, k4, k5, k6, h4⟩)
        · have := la_lt h4; omega
    · obtain ⟨q', rfl, k⟩ := wy_join_right h3 n2
      rw [List.getElem?_append_right n2] at h2
      rcases h4 with ⟨_, h4⟩ | ⟨_, h4⟩
      · rw [Nat.add_sub_cancel_left] at h4
        exact Lg.join (u := []) (of_nul n1) (of_ac ⟨a, u, p - np e, q', rfl, n3, h2, k, h4⟩)
      · have := la_lt h4; omega
  | .alt e f, w, ⟨a, u, p, q, e1, h1, h2, h3, h4⟩ => by
    have h1 : (fs e p || (decide (np e ≤ p) && fs f (p - np e))) = true := h1
    have h2 : (lt e ++ lt f)[p]? = some a := h2
    have h4 : (la e q || (decide (np e ≤ q) && la f (q - np e))) = true := h4
    rw [Bool.or_eq_true, Bool.and_eq_true, decide_eq_true_iff] at h1 h4
    subst e1
    rcases h1 with h1 | ⟨n2, n3⟩
    · have hp := fs_lt h1
      rw [List.getElem?_append_left hp] at h2
      obtain ⟨hq, k⟩ := (wy_alt h3).1 hp
      rcases h4 with h4 | ⟨h4, _⟩
      · exact .altL (of_ac ⟨a, u, p, q, rfl, h1, h2, k, h4⟩)
      · omega
    · obtain ⟨q', rfl, k⟩ := (wy_alt h3).2 n2
      rw [List.getElem?_append_right n2] at h2
      rcases h4 with h4 | ⟨_, h4⟩
      · have := la_lt h4; omega
      · rw [Nat.add_sub_cancel_left] at h4
        exact .altR (of_ac ⟨a, u, p - np e, q', rfl, n3, h2, k, h4⟩)
theorem lg_iff {e : Ex} {w : List Int} : Lg e w ↔ (w = [] ∧ nul e = true) ∨ Ac e w := by
  constructor
  · intro h
    by_cases hw : w = []
    · exact .inl ⟨hw, nul_of h hw⟩
    · exact .inr (ac_of h hw)
  · rintro (⟨rfl, h⟩ | h)
    · exact of_nul h
    · exact of_ac h
end Gk
namespace Mk
/-! masks: the lowest bit -/
theorem odd_split : ∀ (n m : Nat), m ≤ n → 0 < m → ∃ k q, m = 2 ^ k * (2 * q + 1)
  | 0, m, h, h0 => by omega
  | n + 1, m, h, h0 => by
    rcases Nat.mod_two_eq_zero_or_one m with e | e
    · obtain ⟨k, q, h1⟩ := odd_split n (m / 2) (by omega) (by omega)
      refine ⟨k + 1, q, ?_⟩
      rw [Nat.pow_succ, Nat.mul_comm (2 ^ k) 2, Nat.mul_assoc, ← h1]
      omega
    · exact ⟨0, m / 2, by rw [Nat.pow_zero, Nat.one_mul]; omega⟩
theorem tb_mul {k a : Nat} (j : Nat) : (2 ^ k * a).testBit j = (decide (k ≤ j) && a.testBit (j - k)) := by
  rw [Nat.testBit_two_pow_mul]
theorem tb_odd (q j : Nat) : (2 * q + 1).testBit j = (decide (j = 0) || (2 * q).testBit j) := by
  cases j with
  | zero => simp
  | succ j => simp [Nat.testBit_succ]; rw [show (2 * q + 1) / 2 = q by omega]
theorem tb_even0 (q : Nat) : (2 * q).testBit 0 = false := by simp
theorem low {m : Nat} (h : 0 < m) : ∃ k, m.testBit k = true ∧ m - (m &&& (m - 1)) = 2 ^ k ∧ m ^^^ 2 ^ k = m &&& (m - 1) ∧ (m &&& (m - 1)) < m ∧ (∀ i, (m &&& (m - 1)).testBit i = (m.testBit i && !decide (i = k))) ∧ ∀ i, m.testBit i = true → k ≤ i := by
  obtain ⟨k, q, rfl⟩ := odd_split m m (Nat.le_refl _) h
  have hp : 0 < 2 ^ k := Nat.two_pow_pos k
  have e1 : 2 ^ k * (2 * q + 1) - 1 = 2 ^ k * (2 * q) + (2 ^ k - 1) := by rw [Nat.mul_add, Nat.mul_one]; omega
  have band : (2 ^ k * (2 * q + 1)) &&& (2 ^ k * (2 * q + 1) - 1) = 2 ^ k * (2 * q) := by
    refine Nat.eq_of_testBit_eq fun j => ?_
    rw [Nat.testBit_and, e1, Nat.testBit_two_pow_mul_add _ (by omega), tb_mul, tb_mul, tb_odd]
    by_cases hj : j < k
    · rw [if_pos hj, decide_eq_false (by omega)]
      rfl
    · rw [if_neg hj, decide_eq_true (by omega)]
      by_cases h0 : j - k = 0
      · rw [h0, tb_even0]; rfl
      · rw [decide_eq_false h0]
        cases (2 * q).testBit (j - k) <;> rfl
  have tbm : ∀ i, (2 ^ k * (2 * q + 1)).testBit i = (decide (i = k) || (2 ^ k * (2 * q)).testBit i) := fun i => by
    rw [tb_mul, tb_mul, tb_odd]
    by_cases hi : k ≤ i
    · rw [decide_eq_true hi]
      by_cases e : i = k
      · rw [decide_eq_true e, decide_eq_true (by omega : i - k = 0)]; rfl
      · rw [decide_eq_false e, decide_eq_false (by omega : ¬ i - k = 0)]; rfl
    · rw [decide_eq_false hi, decide_eq_false (by omega : ¬ i = k)]; rfl
  have tb0 : (2 ^ k * (2 * q)).testBit k = false := by rw [tb_mul, Nat.sub_self, tb_even0, Bool.and_false]
  refine ⟨k, ?_, ?_, ?_, ?_, fun i => ?_, fun i hi => ?_⟩
  · rw [tbm, decide_eq_true rfl]; rfl
  · rw [band, Nat.mul_add, Nat.mul_one]; omega
  · rw [band]
    refine Nat.eq_of_testBit_eq fun j => ?_
    rw [Nat.testBit_xor, tbm, Nat.testBit_two_pow]
    by_cases e : j = k
    · subst e
      rw [tb0, decide_eq_true rfl]; rfl
    · rw [decide_eq_false e, decide_eq_false (fun z => e z.symm)]
      cases (2 ^ k * (2 * q)).testBit j <;> rfl
  · rw [band, Nat.mul_add, Nat.mul_one]; omega
  · rw [band, tbm]
    by_cases e : i = k
    · subst e
      rw [tb0, decide_eq_true rfl]; rfl
    · rw [decide_eq_false e]
      cases (2 ^ k * (2 * q)).testBit i <;> rfl
  · rw [tb_mul, Bool.and_eq_true, decide_eq_true_iff] at hi
    exact hi.1
theorem zero_of {m : Nat} (h : ∀ i, m.testBit i = false) : m = 0 := Nat.eq_of_testBit_eq fun i => by rw [h i, Nat.zero_testBit]
theorem lt_of_bits {m n : Nat} (h : ∀ i, m.testBit i = true → i < n) : m < 2 ^ n := by
  refine Nat.lt_pow_two_of_testBit m fun i hi => ?_
  cases e : m.testBit i with
  | false => rfl
  | true => have := h i e; omega
end Mk
namespace Gk
/-! the relation between places of a word that goes round -/
/-- the place behind a place -/
def af (n back k : Nat) : Nat := if k + 1 = n then back else k + 1
/-- the place m turns later -/
def pl (n back : Nat) : Nat → Nat → Nat
  | j, 0 => j
  | j, m + 1 => pl n back (af n back j) m
/-- the m letters from a place on -/
def wd (ls : List Int) (back : Nat) : Nat → Nat → List Int
  | _, 0 => []
  | j, m + 1 => ls.getD j 0 :: wd ls back (af ls.length back j) m
theorem wd_len (ls : List Int) (back : Nat) : ∀ (m j : Nat), (wd ls back j m).length = m
  | 0, _ => rfl
  | m + 1, j => by show (wd _ _ _ m).length + 1 = _; rw [wd_len ls back m]
theorem pl_add (n back : Nat) : ∀ (m k j : Nat), pl n back j (m + k) = pl n back (pl n back j m) k
  | 0, k, j => by rw [Nat.zero_add]; rfl
  | m + 1, k, j => by rw [Nat.succ_add]; exact pl_add n back m k _
theorem wd_add (ls : List Int) (back : Nat) : ∀ (m k j : Nat), wd ls back j (m + k) = wd ls back j m ++ wd ls back (pl ls.length back j m) k
  | 0, k, j => by rw [Nat.zero_add]; rfl
  | m + 1, k, j => by
    rw [Nat.succ_add]
    show ls.getD j 0 :: wd ls back _ (m + k) = ls.getD j 0 :: (_ ++ _)
    rw [wd_add ls back m k]
    rfl
theorem pl_lt {n back : Nat} (hb : back < n) : ∀ (m j : Nat), j < n → pl n back j m < n
  | 0, j, h => h
  | m + 1, j, h => pl_lt hb m _ (by unfold af; split <;> omega)
/-- some word of e, not empty, leads from place j to place k -/
def St (ls : List Int) (back : Nat) (e : Ex) (j k : Nat) : Prop := ∃ m, 1 ≤ m ∧ pl ls.length back j m = k ∧ Lg e (wd ls back j m)
section
variable {ls : List Int} {back : Nat}
theorem st_none (j k : Nat) : ¬ St ls back .none j k := fun ⟨m, h1, _, h⟩ => by cases h
theorem st_empty (j k : Nat) : ¬ St ls back .empty j k := fun ⟨m, h1, _, h⟩ => by
  generalize e : wd ls back j m = w at h
  cases h with
  | empty => have := congrArg List.length e; rw [wd_len] at this; simp at this; omega
theorem st_let {a : Int} {j k : Nat} : St ls back (.let_ a) j k ↔ k = af ls.length back j ∧ ls.getD j 0 = a := by
  constructor
  · rintro ⟨m, h1, h2, h⟩
    generalize e : wd ls back j m = w at h
    cases h with
    | let_ _ =>
      have := congrArg List.length e
      rw [wd_len] at this
      have : m = 1 := this
      subst this
      exact ⟨h2.symm, (List.cons.inj e).1⟩
  · rintro ⟨rfl, rfl⟩
    exact ⟨1, Nat.le_refl 1, rfl, .let_ _⟩
theorem st_alt {e f : Ex} {j k : Nat} : St ls back (.alt e f) j k ↔ St ls back e j k ∨ St ls back f j k := by
  constructor
  · rintro ⟨m, h1, h2, h⟩
    cases h with
    | altL h => exact .inl ⟨m, h1, h2, h⟩
    | altR h => exact .inr ⟨m, h1, h2, h⟩
  · rintro (⟨m, h1, h2, h⟩ | ⟨m, h1, h2, h⟩)
    · exact ⟨m, h1, h2, .altL h⟩
    · exact ⟨m, h1, h2, .altR h⟩
theorem wd_split {j m : Nat} {u v : List Int} (h : wd ls back j m = u ++ v) : u = wd ls back j u.length ∧ v = wd ls back (pl ls.length back j u.length) v.length ∧ m = u.length + v.length := by
  have hl := congrArg List.length h
  rw [wd_len, List.length_append] at hl
  rw [hl, wd_add] at h
  have := List.append_inj h (wd_len _ _ _ _)
  exact ⟨this.1.symm, this.2.symm, hl⟩
theorem st_join {e f : Ex} {j k : Nat} : St ls back (.join e f) j k ↔ (∃ i, St ls back e j i ∧ St ls back f i k) ∨ (nul e = true ∧ St ls back f j k) ∨ (nul f = true ∧ St ls back e j k) := by
  constructor
  · rintro ⟨m, h1, h2, h⟩
    generalize e1 : wd ls back j m = w at h
    cases h with
    | @join _ _ u v hu hv =>
      obtain ⟨eu, ev, em⟩ := wd_split e1
      by_cases cu : u = []
      · subst cu
        refine .inr (.inl ⟨nul_of hu rfl, v.length, ?_, ?_, ?_⟩)
        · simp at em; omega
        · have : m = v.length := by simpa using em
          rw [← this]; exact h2
        · rw [ev] at hv; exact hv
      by_cases cv : v = []
      · subst cv
        have : m = u.length := by simpa using em
        refine .inr (.inr ⟨nul_of hv rfl, u.length, by omega, by rw [← this]; exact h2, by rw [← eu]; exact hu⟩)
      · refine .inl ⟨pl ls.length back j u.length, ⟨u.length, List.length_pos_iff.mpr cu, rfl, by rw [← eu]; exact hu⟩, v.length, List.length_pos_iff.mpr cv, ?_, by rw [← ev]; exact hv⟩
        rw [← pl_add, ← em]; exact h2
  · rintro (⟨i, ⟨m1, h1, h2, h3⟩, ⟨m2, k1, k2, k3⟩⟩ | ⟨n, m, h1, h2, h3⟩ | ⟨n, m, h1, h2, h3⟩)
    · subst h2
      exact ⟨m1 + m2, by omega, by rw [pl_add]; exact k2, by rw [wd_add]; exact .join h3 k3⟩
    · exact ⟨m, h1, h2, .join (u := []) (of_nul n) h3⟩
    · refine ⟨m, h1, h2, ?_⟩
      have := Lg.join h3 (of_nul n)
      rwa [List.append_nil] at this
/-- one step or more -/
inductive Tc (R : Nat → Nat → Prop) : Nat → Nat → Prop
  | one {j k : Nat} : R j k → Tc R j k
  | more {j i k : Nat} : R j i → Tc R i k → Tc R j k
theorem Tc.trans {R : Nat → Nat → Prop} {j i k : Nat} (h : Tc R j i) (g : Tc R i k) : Tc R j k := by
  induction h with
  | one h => exact .more h g
  | more h _ ih => exact .more h (ih g)
theorem st_star {e : Ex} {j k : Nat} : St ls back (.star e) j k ↔ Tc (St ls back e) j k := by
  constructor
  · rintro ⟨m, h1, h2, h⟩
    have key : ∀ {w : List Int}, Lg (.star e) w → ∀ j, w = wd ls back j w.length → w ≠ [] → Tc (St ls back e) j (pl ls.length back j w.length) := by
      intro w h
      generalize e1 : Ex.star e = x at h
      induction h with
      | star0 _ => exact fun j _ h => absurd rfl h
      | @starS e' u v hu hv i1 i2 =>
        cases e1
        intro j hw hne
        obtain ⟨eu, ev, em⟩ := wd_split (m := (u ++ v).length) hw.symm
        by_cases cu : u = []
        · subst cu
          exact i2 rfl j hw hne
        have s1 : St ls back e j (pl ls.length back j u.length) := ⟨u.length, List.length_pos_iff.mpr cu, rfl, by rw [← eu]; exact hu⟩
        by_cases cv : v = []
        · subst cv
          rw [List.append_nil]
          exact .one s1
        · rw [List.length_append, pl_add]
          exact .more s1 (i2 rfl _ ev cv)
      | empty => cases e1
      | let_ _ => cases e1
      | join _ _ _ _ => cases e1
      | altL _ _ => cases e1
      | altR _ _ => cases e1
    have := key h j (by rw [wd_len]) (by intro z; have := congrArg List.length z; rw [wd_len] at this; simp at this; omega)
    rw [wd_len, h2] at this
    exact this
  · intro h
    induction h with
    | one h =>
      obtain ⟨m, h1, h2, h3⟩ := h
      refine ⟨m, h1, h2, ?_⟩
      have := Lg.starS h3 (.star0 e)
      rwa [List.append_nil] at this
    | more h _ ih =>
      obtain ⟨m1, h1, h2, h3⟩ := h
      obtain ⟨m2, k1, k2, k3⟩ := ih
      subst h2
      exact ⟨m1 + m2, by omega, by rw [pl_add]; exact k2, by rw [wd_add]; exact .starS h3 k3⟩
end
/-- up to t + 1 steps -/
def Up (R : Nat → Nat → Prop) : Nat → Nat → Nat → Prop
  | 0, j, k => R j k
  | t + 1, j, k => Up R t j k ∨ ∃ i, Up R t j i ∧ R i k
theorem up_tc {R : Nat → Nat → Prop} : ∀ {t j k : Nat}, Up R t j k → Tc R j k
  | 0, _, _, h => .one h
  | t + 1, _, _, h => by
    rcases h with h | ⟨i, h1, h2⟩
    · exact up_tc h
    · exact (up_tc h1).trans (.one h2)
theorem up_mono {R : Nat → Nat → Prop} {t j k : Nat} (h : Up R t j k) : ∀ d, Up R (t + d) j k
  | 0 => h
  | d + 1 => .inl (up_mono h d)
/-- a walk with d steps -/
def Wa (R : Nat → Nat → Prop) (f : Nat → Nat) (d : Nat) : Prop := ∀ i, i < d → R (f i) (f (i + 1))
theorem up_wa {R : Nat → Nat → Prop} {f : Nat → Nat} : ∀ d, Wa R f (d + 1) → Up R d (f 0) (f (d + 1))
  | 0, h => h 0 (Nat.lt_succ_self _)
  | d + 1, h => .inr ⟨f (d + 1), up_wa d (fun i hi => h i (by omega)), h (d + 1) (by omega)⟩
theorem tc_wa {R : Nat → Nat → Prop} {j k : Nat} (h : Tc R j k) : ∃ f d, Wa R f (d + 1) ∧ f 0 = j ∧ f (d + 1) = k := by
  induction h with
  | @one j k h => exact ⟨fun i => if i = 0 then j else k, 0, fun i hi => by have : i = 0 := by omega
                                                                            subst this; exact h, rfl, rfl⟩
  | @more j i k h _ ih =>
    obtain ⟨f, d, h1, h2, h3⟩ := ih
    refine ⟨fun i => match i with | 0 => j | i + 1 => f i, d + 1, fun i hi => ?_, rfl, h3⟩
    cases i with
    | zero => show R j (f 0); rw [h2]; exact h
    | succ i => exact h1 i (by omega)
end Gk
namespace Gk
theorem wa_short {R : Nat → Nat → Prop} {n : Nat} (hR : ∀ a b, R a b → a < n ∧ b < n) : ∀ (N d : Nat) (f : Nat → Nat), d ≤ N → Wa R f (d + 1) → ∃ g d', d' ≤ n ∧ Wa R g (d' + 1) ∧ g 0 = f 0 ∧ g (d' + 1) = f (d + 1)
  | 0, d, f, h, w => ⟨f, d, by omega, w, rfl, rfl⟩
  | N + 1, d, f, h, w => by
    by_cases hd : d ≤ n
    · exact ⟨f, d, hd, w, rfl, rfl⟩
    obtain ⟨i, j, hij, hj, e⟩ := Lv.pigeon (n := n) (f := f) fun k hk => (hR _ _ (w k (by omega))).1
    let g : Nat → Nat := fun x => if x ≤ i then f x else f (x + (j - i))
    have g1 : ∀ x, x ≤ i → g x = f x := fun x hx => if_pos hx
    have g2 : ∀ x, ¬ x ≤ i → g x = f (x + (j - i)) := fun x hx => if_neg hx
    have wg : Wa R g ((d - (j - i)) + 1) := fun x hx => by
      by_cases c : x + 1 ≤ i
      · rw [g1 x (by omega), g1 (x + 1) c]; exact w x (by omega)
      by_cases c2 : x ≤ i
      · have : x = i := by omega
        subst this
        rw [g1 x c2, g2 (x + 1) c, e, show x + 1 + (j - x) = j + 1 by omega]
        exact w j (by omega)
      · rw [g2 x c2, g2 (x + 1) c, show x + 1 + (j - i) = x + (j - i) + 1 by omega]
        exact w _ (by omega)
    obtain ⟨g', d', h1, h2, h3, h4⟩ := wa_short hR N (d - (j - i)) g (by omega) wg
    refine ⟨g', d', h1, h2, by rw [h3, g1 0 (Nat.zero_le _)], ?_⟩
    rw [h4, g2 _ (by omega)]
    congr 1
    omega
theorem tc_up {R : Nat → Nat → Prop} {n : Nat} (hR : ∀ a b, R a b → a < n ∧ b < n) {j k : Nat} : Tc R j k ↔ Up R n j k := by
  constructor
  · intro h
    obtain ⟨f, d, h1, h2, h3⟩ := tc_wa h
    obtain ⟨g, d', k1, k2, k3, k4⟩ := wa_short hR d d f (Nat.le_refl _) h1
    have := up_mono (up_wa d' k2) (n - d')
    rw [k3, k4, h2, h3, show d' + (n - d') = n by omega] at this
    exact this
  · exact up_tc
end Gk
namespace Bx
open PySem PySem.Spec PyProof.Rows L2
theorem bitand_neg {m : Nat} (h : 0 < m) : Builtin.bitAnd (m : Int) (-(m : Int)) = ((m - (m &&& (m - 1)) : Nat) : Int) := by
  unfold Builtin.bitAnd Builtin.bitNot
  rw [decide_eq_true (show (0 : Int) ≤ (m : Int) by omega), decide_eq_false (show ¬ (0 : Int) ≤ -(m : Int) by omega)]
  show (m : Int) - (((m : Int).toNat &&& (- -(m : Int) - 1).toNat : Nat) : Int) = _
  have e : (- -(m : Int) - 1).toNat = m - 1 := by omega
  rw [e, Int.toNat_natCast]
  have : m &&& (m - 1) ≤ m := Nat.and_le_left
  omega
theorem bits_pow (k : Nat) : Builtin.Int.intBits ((2 ^ k : Nat) : Int) = k + 1 := by
  unfold Builtin.Int.intBits
  have h : 0 < 2 ^ k := Nat.two_pow_pos k
  rw [if_neg (by rw [beq_iff_eq]; omega)]
  show Nat.log2 (Int.natAbs ((2 ^ k : Nat) : Int)) + 1 = k + 1
  rw [Int.natAbs_natCast, Nat.log2_two_pow]
theorem bor_nat (a b : Nat) : Builtin.bitOr (a : Int) (b : Int) = ((a ||| b : Nat) : Int) := by
  have := Bits.bitOr_pp (x := (a : Int)) (y := (b : Int)) (by omega) (by omega)
  rwa [Int.toNat_natCast, Int.toNat_natCast] at this
theorem bxor_nat (a b : Nat) : Builtin.bitXor (a : Int) (b : Int) = ((a ^^^ b : Nat) : Int) := by
  have := Bits.bitXor_pp (x := (a : Int)) (y := (b : Int)) (by omega) (by omega)
  rwa [Int.toNat_natCast, Int.toNat_natCast] at this
theorem band_nat (a b : Nat) : Builtin.bitAnd (a : Int) (b : Int) = ((a &&& b : Nat) : Int) := by
  have := PyProof.Rows.bitAnd_pp (x := (a : Int)) (y := (b : Int)) (by omega) (by omega)
  rwa [Int.toNat_natCast, Int.toNat_natCast] at this
/-- the class of the places of an expression -/
structure PosC (K : PySem.W.Frag) (C : Addr) : Prop where
  cl : Cls K C
  nl : NoAttr K C "letters"
  nf : NoAttr K C "follows"
  n1 : NoAttr K C "first"
  n2 : NoAttr K C "last"
  n3 : NoAttr K C "nullable"
end Bx
local macro_rules | `(tactic| walk_at "hl") => `(tactic| first | assumption | exact L2.upd_same | (refine Bx.sat (by assumption) ?_; walk_at "hl"))
local macro_rules | `(tactic| walk_at "bx") => `(tactic| repeat (first
  | refine ⟨_, rfl, ?_⟩
  | refine ⟨_, _, rfl, rfl, ?_⟩
  | refine ⟨rfl, ?_⟩
  | refine Or.inl ⟨_, rfl, ?_⟩
  | refine ⟨Or.inr ⟨by decide, by decide⟩, ?_⟩
  | refine ⟨Or.inl ⟨by decide, by decide⟩, ?_⟩
  | refine ⟨(show (0 : Int) < _ by decide), ?_⟩
  | refine ⟨⟨by decide, by decide⟩, ?_⟩
  | refine ⟨_, _, rfl, Or.inl (L2.SqL.of (by walk_at "hl")), ?_⟩
  | refine ⟨_, _, rfl, Or.inr (L2.SqT.of (by walk_at "hl")), ?_⟩
  | refine ⟨Or.inl ⟨rfl, _, L2.SqL.of (by walk_at "hl")⟩, ?_⟩
  | refine ⟨_, _, _, rfl, rfl, (by walk_at "hl"), ?_⟩
  | refine ⟨_, _, rfl, rfl, (by walk_at "hl"), ?_⟩
  | refine ⟨_, _, _, _, rfl, rfl, L2.SqT.of (by walk_at "hl"), (by walk_at "hl"), ?_⟩
  | refine ⟨_, _, _, _, rfl, rfl, L2.SqL.of (by walk_at "hl"), (by walk_at "hl"), ?_⟩
  | refine ⟨_, _, rfl, Bx.SeqI.sq (by walk_at "hl"), ?_⟩
  | refine And.intro (by walk_at "hl") ?_))
local macro_rules | `(tactic| walk_at "nl") => `(tactic| ((try unfold L2.tNil); (try unfold L2.tNoPart)))

namespace My
open PySem PySem.Spec PyProof.Rows L2 Bx Tx Tz
def topS (i : Nat) : Stmt := PySem.Challenge.pw_reactivesynth_k71_matches.main.body.getD i (.Pass ⟨0, 0, 0, 0⟩)
abbrev s_numbers_of : Stmt := topS 1
abbrev N_numbers_of : List Str := ["mask", "numbers", "lowest"]
theorem sc_numbers_of : FnScope N_numbers_of ["mask"] (defScope s_numbers_of) := ⟨rfl, rfl, rfl, by decide +kernel, rfl, by decide +kernel, by decide +kernel⟩
abbrev s_matches : Stmt := topS 5
abbrev N_matches : List Str := ["expression", "word", "positions", "reached", "letter", "following", "position"]
theorem sc_matches : FnScope N_matches ["expression", "word"] (defScope s_matches) := ⟨rfl, rfl, rfl, by decide +kernel, rfl, by decide +kernel, by decide +kernel⟩
abbrev s_law_draws : Stmt := topS 7
abbrev N_law_draws : List Str := ["script", "count", "cells", "found", "mixed", "k", "j", "cell", "again"]
theorem sc_law_draws : FnScope N_law_draws ["script", "count"] (defScope s_law_draws) := ⟨rfl, rfl, rfl, by decide +kernel, rfl, by decide +kernel, by decide +kernel⟩
abbrev s_law_take : Stmt := topS 8
abbrev N_law_take : List Str := ["draws", "limit"]
theorem sc_law_take : FnScope N_law_take ["draws", "limit"] (defScope s_law_take) := ⟨rfl, rfl, rfl, by decide +kernel, rfl, by decide +kernel, by decide +kernel⟩
abbrev s_law_expression : Stmt := topS 9
abbrev N_law_expression : List Str := ["draws", "letters", "deep", "choice", "left"]
theorem sc_law_expression : FnScope N_law_expression ["draws", "letters", "deep"] (defScope s_law_expression) := ⟨rfl, rfl, rfl, by decide +kernel, rfl, by decide +kernel, by decide +kernel⟩
abbrev s_law_nullable : Stmt := topS 10
abbrev N_law_nullable : List Str := ["expression"]
theorem sc_law_nullable : FnScope N_law_nullable ["expression"] (defScope s_law_nullable) := ⟨rfl, rfl, rfl, by decide +kernel, rfl, by decide +kernel, by decide +kernel⟩
abbrev s_law_composed : Stmt := topS 11
abbrev N_law_composed : List Str := ["first", "second", "found", "row", "after", "k", "j"]
theorem sc_law_composed : FnScope N_law_composed ["first", "second"] (defScope s_law_composed) := ⟨rfl, rfl, rfl, by decide +kernel, rfl, by decide +kernel, by decide +kernel⟩
abbrev s_law_joined : Stmt := topS 12
abbrev N_law_joined : List Str := ["first", "second", "j", "k"]
theorem sc_law_joined : FnScope N_law_joined ["first", "second"] (defScope s_law_joined) := ⟨rfl, rfl, rfl, by decide +kernel, rfl, by decide +kernel, by decide +kernel⟩
abbrev s_law_closed : Stmt := topS 13
abbrev N_law_closed : List Str := ["step", "found", "turn"]
theorem sc_law_closed : FnScope N_law_closed ["step"] (defScope s_law_closed) := ⟨rfl, rfl, rfl, by decide +kernel, rfl, by decide +kernel, by decide +kernel⟩
abbrev s_law_steps : Stmt := topS 14
abbrev N_law_steps : List Str := ["expression", "letters", "back", "size", "found", "k", "after", "left", "right", "j"]
theorem sc_law_steps : FnScope N_law_steps ["expression", "letters", "back"] (defScope s_law_steps) := ⟨rfl, rfl, rfl, by decide +kernel, rfl, by decide +kernel, by decide +kernel⟩
abbrev s_law_made : Stmt := topS 15
abbrev N_law_made : List Str := ["draws", "expression", "found", "k"]
theorem sc_law_made : FnScope N_law_made ["draws", "expression"] (defScope s_law_made) := ⟨rfl, rfl, rfl, by decide +kernel, rfl, by decide +kernel, by decide +kernel⟩
abbrev s_law : Stmt := topS 16
abbrev N_law : List Str := ["script", "draws", "letters", "expression", "word", "expected", "steps", "passed", "found", "k"]
theorem sc_law : FnScope N_law ["script"] (defScope s_law) := ⟨rfl, rfl, rfl, by decide +kernel, rfl, by decide +kernel, by decide +kernel⟩
abbrev s_Positions_init : Stmt := inClass (topS 3) 0
abbrev N_Positions_init : List Str := ["self", "expression"]
theorem sc_Positions_init : FnScope N_Positions_init ["self", "expression"] (defScope s_Positions_init) := ⟨rfl, rfl, rfl, by decide +kernel, rfl, by decide +kernel, by decide +kernel⟩
abbrev s_Positions_add_part : Stmt := inClass (topS 3) 1
abbrev N_Positions_add_part : List Str := ["self", "expression", "kind", "mask", "first", "last", "nullable", "other_first", "other_last", "other_nullable"]
theorem sc_Positions_add_part : FnScope N_Positions_add_part ["self", "expression"] (defScope s_Positions_add_part) := ⟨rfl, rfl, rfl, by decide +kernel, rfl, by decide +kernel, by decide +kernel⟩
abbrev s_Positions_connect : Stmt := inClass (topS 3) 2
abbrev N_Positions_connect : List Str := ["self", "before", "behind", "position"]
theorem sc_Positions_connect : FnScope N_Positions_connect ["self", "before", "behind"] (defScope s_Positions_connect) := ⟨rfl, rfl, rfl, by decide +kernel, rfl, by decide +kernel, by decide +kernel⟩
abbrev s_Positions_at_letter : Stmt := inClass (topS 3) 3
abbrev N_Positions_at_letter : List Str := ["self", "mask", "letter", "found", "position"]
theorem sc_Positions_at_letter : FnScope N_Positions_at_letter ["self", "mask", "letter"] (defScope s_Positions_at_letter) := ⟨rfl, rfl, rfl, by decide +kernel, rfl, by decide +kernel, by decide +kernel⟩
structure Has (K : PySem.W.Frag) (mg : Str → Option Value) (x : Str) (st : Stmt) (ps : List Str) : Prop where
  ex : ∃ (f : Addr) (fd : FuncData), L2.Fun K x x st f fd ∧ mg x = some (.ref f) ∧ Binds K fd ps []
structure Txt (K : PySem.W.Frag) (mg : Str → Option Value) : Prop where
  h_numbers_of : Has K mg "numbers_of" s_numbers_of ["mask"]
  h_matches : Has K mg "matches" s_matches ["expression", "word"]
  h_law_draws : Has K mg "_law_draws" s_law_draws ["script", "count"]
  h_law_take : Has K mg "_law_take" s_law_take ["draws", "limit"]
  h_law_expression : Has K mg "_law_expression" s_law_expression ["draws", "letters", "deep"]
  h_law_nullable : Has K mg "_law_nullable" s_law_nullable ["expression"]
  h_law_composed : Has K mg "_law_composed" s_law_composed ["first", "second"]
  h_law_joined : Has K mg "_law_joined" s_law_joined ["first", "second"]
  h_law_closed : Has K mg "_law_closed" s_law_closed ["step"]
  h_law_steps : Has K mg "_law_steps" s_law_steps ["expression", "letters", "back"]
  h_law_made : Has K mg "_law_made" s_law_made ["draws", "expression"]
  z_bool : mg "bool" = none
  z_int : mg "int" = none
  z_isinstance : mg "isinstance" = none
  z_len : mg "len" = none
  z_list : mg "list" = none
  z_range : mg "range" = none
  er : ∃ (C fI fA fC fL : Addr) (fdI fdA fdQ fdL : FuncData), PosC K C ∧ Mk K C fI ∧ mg "Positions" = some (.ref C) ∧ L2.Fun K "__init__" "Positions.__init__" s_Positions_init fI fdI ∧ Binds K fdI ["self", "expression"] [] ∧ Meth K C "add_part" fA ∧ L2.Fun K "add_part" "Positions.add_part" s_Positions_add_part fA fdA ∧ Binds K fdA ["self", "expression"] [] ∧ Meth K C "connect" fC ∧ L2.Fun K "connect" "Positions.connect" s_Positions_connect fC fdQ ∧ Binds K fdQ ["self", "before", "behind"] [] ∧ Meth K C "at_letter" fL ∧ L2.Fun K "at_letter" "Positions.at_letter" s_Positions_at_letter fL fdL ∧ Binds K fdL ["self", "mask", "letter"] []

-- BODY
def spLaw (K : PySem.W.Frag) : Sp := fun vs H Q _ => ∃ (a : Addr) (ns : List Int), vs = [.ref a] ∧ SqL K H a (ns.map V.int) ∧ ns.length ≤ 63 ∧ ∀ H', Q (.bl true) H'
section
variable {P : Program} {w : World} {K : PySem.W.Frag} {mg : Str → Option Value} {base : Heap}
theorem cal_take (T : Txt K mg) : C8.Cal P w K mg base 1 "_law_take" spTake [] := by
  obtain ⟨f, fd, F, hm, hb⟩ := T.h_law_take
  refine ⟨f, fd, _, [], F.ok sc_law_take (fun vs H Q E h => ?_) (fun cdv A outer s H vs Q E hr h => ?_), hm, F.kp, hb, .nil⟩
  · obtain ⟨d, n, rfl, _⟩ := h
    rfl
  · obtain ⟨d, n, rfl, ⟨ds, hd⟩, hn, q⟩ := h
    refine ⟨_, (pss_cons
      (ps_if (pt_cmpR op_eq (pe_callB (call_lenK (K := K) rfl) (by rfl) T.z_len PySem.boot_len (pa_cons (pv 0) pa_nil)) pe_int (nomark _)) (pss_one
      (ps_ret pe_int)) pss_nil)
      (pss_one
      (ps_ret (pe_op op_mod (pe_callTy call_int1 (by rfl) T.z_int (by decide +kernel) (pa_cons (pe_bm0 PySem.F.plainAttrs_list PySem.F.slot_list_pop PySem.F.type_list_pop mt_pop (pv 0)) pa_nil)) (pv 1))))), ?_⟩
    walk_at "bx"
    refine ite2 (fun e => ?_) (fun e => ?_)
    · have q0 := q 0 ds (Int.le_refl 0) hn
      rw [upd_self hd] at q0
      exact q0
    · have hne : ds ≠ [] := fun z => e (by rw [z]; rfl)
      refine ⟨_, rfl, .inl ⟨rfl, _, SqL.of hd⟩, d, _, .int (ds.getLast hne), rfl, rfl, hd, ?_, ?_⟩
      · rw [List.length_map, List.getElem?_map, ← List.getLast?_eq_getElem?, List.getLast?_eq_getLast hne]
        rfl
      · walk_at "bx"
        rw [← List.map_dropLast]
        exact q _ _ (Int.emod_nonneg _ (by omega)) (Int.emod_lt_of_pos _ hn)
theorem cal_draws (T : Txt K mg) : C8.Cal P w K mg base 1 "_law_draws" (spDraws K) [] := by
  obtain ⟨f, fd, F, hm, hb⟩ := T.h_law_draws
  refine ⟨f, fd, _, [], F.ok sc_law_draws (fun vs H Q E h => ?_) (fun cdv A outer s H vs Q E hr h => ?_), hm, F.kp, hb, .nil⟩
  · obtain ⟨a, ns, c, rfl, _⟩ := h
    rfl
  · obtain ⟨a, ns, n, rfl, hS, hn, q⟩ := h
    refine ⟨_, (pss_cons
      (ps_set (i := 2) sc_law_draws.nd rfl (Or.inl rfl) (pe_callTy (call_list_ofK (K := K) rfl) (by rfl) T.z_list (by decide +kernel) (pa_cons (pv 0) pa_nil)))
      (C8.pss_cut
      (ps_if (pt_cmpR op_eq (pe_callB (call_lenK (K := K) rfl) (by rfl) T.z_len PySem.boot_len (pa_cons (pv 2) pa_nil)) pe_int (nomark _)) (pss_one
      (ps_set (i := 2) sc_law_draws.nd rfl (Or.inl rfl) (pe_lst (pa_cons pe_int pa_nil)))) pss_nil)
      (pss_cons
      (ps_set (i := 3) sc_law_draws.nd rfl (Or.inl rfl) (pe_lst pa_nil))
      (pss_cons
      (ps_set (i := 4) sc_law_draws.nd rfl (Or.inl rfl) pe_int)
      (pss_cons
      (ps_for PassesOwn.never rfl (pi_range1 (by rfl) T.z_range (pa_cons (pv 1) pa_nil)) (pg_name (i := 5) sc_law_draws.nd rfl (.inl rfl)) (pss_cons
      (ps_set (i := 6) sc_law_draws.nd rfl (Or.inl rfl) (pe_op op_mod (pv 5) (pe_callB (call_lenK (K := K) rfl) (by rfl) T.z_len PySem.boot_len (pa_cons (pv 2) pa_nil))))
      (pss_cons
      (ps_set (i := 7) sc_law_draws.nd rfl (Or.inl rfl) (pe_ix (ix_listK (K := K) rfl) (pv 2) (pv 6) (fun _ _ => rfl)))
      (pss_cons
      (ps_set (i := 4) sc_law_draws.nd rfl (Or.inl rfl) (pe_op op_mod (pe_callTy call_int1 (by rfl) T.z_int (by decide +kernel) (pa_cons (pe_op op_add (pe_op op_add (pe_op op_add (pe_op op_mul (pv 4) pe_int) (pe_op op_mul (pe_op op_mod (pe_callTy call_int1 (by rfl) T.z_int (by decide +kernel) (pa_cons (pv 7) pa_nil)) pe_int) pe_int)) (pe_op op_mul (pv 5) pe_int)) pe_int) pa_nil)) pe_int))
      (pss_cons
      (ps_set (i := 8) sc_law_draws.nd rfl (Or.inl rfl) (pe_op op_mod (pe_callTy call_int1 (by rfl) T.z_int (by decide +kernel) (pa_cons (pe_op op_add (pe_op op_add (pe_op op_mul (pv 4) (pv 4)) (pe_op op_mul pe_int (pv 4))) (pv 5)) pa_nil)) pe_int))
      (pss_one
      (ps_if (pt_cmpR op_ge (pv 7) (pe_op op_pow pe_int pe_int) (nomark _)) (pss_cons
      (ps_expr (pe_bm PySem.F.plainAttrs_list PySem.F.slot_list_append PySem.F.type_list_append mt_append (pv 3) (pa_cons (pe_op op_mod (pe_callTy call_int1 (by rfl) T.z_int (by decide +kernel) (pa_cons (pv 7) pa_nil)) pe_int) pa_nil)))
      (pss_one
      (ps_asg (pe_op op_fdiv (pv 7) pe_int) (pg_sub (pv 2) (pv 6) set_list)))) (pss_one
      (ps_expr (pe_bm PySem.F.plainAttrs_list PySem.F.slot_list_append PySem.F.type_list_append mt_append (pv 3) (pa_cons (pe_op op_mod (pe_callTy call_int1 (by rfl) T.z_int (by decide +kernel) (pa_cons (pv 8) pa_nil)) pe_int) pa_nil)))))))))))
      (pss_cons
      (ps_expr (pe_bm0 PySem.F.plainAttrs_list PySem.F.slot_list_reverse PySem.F.type_list_reverse mt_reverse (pv 3)))
      (pss_one
      (ps_ret (pv 3))))))))), ?_⟩
    -- cells = list(script)
    refine ⟨_, rfl, a, _, rfl, .inl hS, fun l hl => ?_⟩
    -- if len(cells) == 0: cells = [7]
    refine ⟨fun σ H2 => ∃ (c : Addr) (cs : List Int), σ = [some (.ref a), some (.int n), some (.ref c), none, none, none, none, none, none] ∧ H c = none ∧ Same H H2 ∧ H2 c = some (.lst (cs.map V.int)) ∧ cs ≠ [], ?_, ?_⟩
    · have h0 : (upd H l (.lst (ns.map V.int))) l = some (.lst (ns.map V.int)) := upd_same
      walk_at "bx"
      refine ite2 (fun e => ?_) (fun e => ?_)
      · refine ⟨by show 1 ≤ sizeLine; decide, fun l2 h2 => ?_⟩
        have s1 : Same H (upd H l (.lst (ns.map V.int))) := same_new hl
        exact ⟨l2, [7], rfl, s1.free h2, s1.trans (same_new h2), upd_same, by decide⟩
      · exact ⟨l, ns, rfl, hl, same_new hl, upd_same, fun z => e (by rw [z]; rfl)⟩
    · rintro σ H2 ⟨c, cs, rfl, hc0, s2, hc, hcs⟩
      -- found = [], mixed = 12345
      refine ⟨Nat.zero_le _, fun o ho => ?_⟩
      have hco : c ≠ o := ne_of_none hc ho
      have ho0 : H o = none := s2.free ho
      -- for k in range(count)
      refine ⟨_, rfl, _, rfl, by omega, by omega, for_range (lo := 0) (n := ((n : Int)).toNat) (fun i σ H3 => ∃ (m : Int) (cs fs : List Int) (v5 v6 v7 v8 : Option V), σ = [some (.ref a), some (.int n), some (.ref c), some (.ref o), some (.int m), v5, v6, v7, v8] ∧ 0 ≤ m ∧ m < 2147483647 ∧ Same H H3 ∧ H3 c = some (.lst (cs.map V.int)) ∧ cs ≠ [] ∧ H3 o = some (.lst (fs.map V.int)) ∧ fs.length ≤ i)
        ⟨12345, cs, [], none, none, none, none, rfl, by decide, by decide, s2.trans (same_new ho), by rw [upd_ne hco]; exact hc, hcs, upd_same, Nat.le_refl _⟩ ?_ ?_⟩
      · rintro i σ H3 hi ⟨m, cs, fs, v5, v6, v7, v8, rfl, m0, m1, s3, hc, hcs, hf, hfl⟩
        have hl : 0 < cs.length := List.length_pos_iff.mpr hcs
        obtain ⟨z, hz⟩ : ∃ z, cs[i % cs.length]? = some z := ⟨_, List.getElem?_eq_getElem (Nat.mod_lt _ hl)⟩
        have ej : ((0 : Int) + (i : Int)) % (((cs.map V.int).length : Nat) : Int) = ((i % cs.length : Nat) : Int) := by
          rw [Int.zero_add, List.length_map]
          rfl
        -- j = k % len(cells)
        walk_at "bx"
        refine ⟨(show (0 : Int) < _ by rw [List.length_map]; omega), ?_⟩
        -- cell = cells[j]
        refine ⟨_, rfl, _, rfl, c, _, _, .int z, rfl, rfl, SqL.of hc, ?_, ?_⟩
        · rw [ej]
          exact atI_nat (by rw [List.getElem?_map, hz]; rfl)
        -- mixed, again
        walk_at "bx"
        have b1 : (0 : Int) ≤ z % 1000003 := Int.emod_nonneg _ (by decide)
        refine ⟨.inl ⟨?_, ?_⟩, ?_⟩
        · have := Int.emod_nonneg (m * 48271 + z % 1000003 * 69621 + (0 + (i : Int)) * 7919 + 11) (show (2147483647 : Int) ≠ 0 by decide)
          show -(2 ^ 64) < (m * 48271 + z % 1000003 * 69621 + (0 + (i : Int)) * 7919 + 11) % 2147483647
          omega
        · have := Int.emod_lt_of_pos (m * 48271 + z % 1000003 * 69621 + (0 + (i : Int)) * 7919 + 11) (show (0 : Int) < 2147483647 by decide)
          show (m * 48271 + z % 1000003 * 69621 + (0 + (i : Int)) * 7919 + 11) % 2147483647 < 2 ^ 64
          omega
        have c0 : 0 ≤ (m * 48271 + z % 1000003 * 69621 + (0 + (i : Int)) * 7919 + 11) % 2147483647 := Int.emod_nonneg _ (by decide)
        have c1 : (m * 48271 + z % 1000003 * 69621 + (0 + (i : Int)) * 7919 + 11) % 2147483647 < 2147483647 := Int.emod_lt_of_pos _ (by decide)
        walk_at "bx"
        refine ite2 (fun e => ?_) (fun e => ?_)
        · walk_at "bx"
          refine ⟨lenI (by omega), ?_⟩
          walk_at "bx"
          refine ⟨c, cs.map V.int, _, i % cs.length, rfl, rfl, by rw [upd_ne hco]; exact hc, by rw [ej]; exact ixN_at (by rw [List.length_map]; exact Nat.mod_lt _ hl), ?_⟩
          refine ⟨_, cs.set (i % cs.length) (z / 1000), fs ++ [z % 1000], _, _, _, _, rfl, c0, c1, fun b o' hb => ?_, by rw [upd_same, set_mapI], by simpa using hcs, by rw [upd_ne hco.symm, upd_same]; simp, by simp; omega⟩
          rw [upd_ne (fun z => by rw [z, hc0] at hb; cases hb), upd_ne (fun z => by rw [z, ho0] at hb; cases hb)]
          exact s3 _ _ hb
        · walk_at "bx"
          refine ⟨lenI (by omega), ?_⟩
          refine ⟨_, cs, fs ++ [_], _, _, _, _, rfl, c0, c1, fun b o' hb => ?_, by rw [upd_ne hco]; exact hc, hcs, by rw [upd_same, List.map_append]; rfl, by simp; omega⟩
          rw [upd_ne (fun z => by rw [z, ho0] at hb; cases hb)]
          exact s3 _ _ hb
      · rintro σ H3 ⟨m, cs, fs, v5, v6, v7, v8, rfl, m0, m1, s3, hc, hcs, hf, hfl⟩
        -- found.reverse()
        walk_at "bx"
        refine q _ o (fun b o' hb => ?_) ho0 ⟨fs.reverse, ?_⟩
        · rw [upd_ne (fun z => by rw [z, ho0] at hb; cases hb)]
          exact s3 _ _ hb
        · rw [upd_same, List.map_reverse]
theorem op_inK {X : Cx} {K : PySem.W.Frag} (h : X.K = K) : OpR X (compareOp .In) (rIn K false) := by
  subst h
  exact op_in_seq
theorem op_notInK {X : Cx} {K : PySem.W.Frag} (h : X.K = K) : OpR X (compareOp .NotIn) (rIn K true) := by
  subst h
  exact op_notIn_seq
theorem asc_len : ∀ {ns : List Nat} {n : Nat}, ns.Pairwise (· < ·) → (∀ x ∈ ns, x < n) → ns.length ≤ n
  | [], _, _, _ => Nat.zero_le _
  | x :: l, n, h, k => by
    have hx := k x List.mem_cons_self
    rw [List.pairwise_cons] at h
    have : (l.map fun y => y - (x + 1)).length ≤ n - (x + 1) := by
      refine asc_len (List.pairwise_map.mpr (h.2.imp_of_mem fun {a b} ha hb hab => ?_)) fun y hy => ?_
      · have := h.1 a ha; have := h.1 b hb; omega
      · obtain ⟨z, hz, rfl⟩ := List.mem_map.mp hy
        have := k z (List.mem_cons_of_mem _ hz)
        have := h.1 z hz
        omega
    rw [List.length_map] at this
    rw [List.length_cons]
    omega
termination_by l => l.length
def spNum : Sp := fun vs H Q _ => ∃ (m : Nat), vs = [.int (m : Nat)] ∧ m < 2 ^ 200 ∧
  ∀ (H' : Hp) (p : Addr) (ns : List Nat), Same H H' → H p = none → H' p = some (.lst (ns.map VN)) → ns.Pairwise (· < ·) → (∀ i, i ∈ ns ↔ m.testBit i = true) → ns.length ≤ 200 → Q (.ref p) H'
theorem cal_num (T : Txt K mg) : C8.Cal P w K mg base 1 "numbers_of" spNum [] := by
  obtain ⟨f, fd, F, hm, hb⟩ := T.h_numbers_of
  refine ⟨f, fd, _, [], F.ok sc_numbers_of (fun vs H Q E h => ?_) (fun cdv A outer s H vs Q E hr h => ?_), hm, F.kp, hb, .nil⟩
  · obtain ⟨m, rfl, _⟩ := h
    rfl
  · obtain ⟨m, rfl, hm2, q⟩ := h
    refine ⟨_, (pss_cons
      (ps_set (i := 1) sc_numbers_of.nd rfl (Or.inl rfl) (pe_lst pa_nil))
      (C8.pss_cut
      (ps_while PassesOwn.never (pt_cmpR op_gt (pv 0) pe_int (nomark _)) (pss_cons
      (ps_set (i := 2) sc_numbers_of.nd rfl (Or.inl rfl) (pe_op op_and (pv 0) (pe_un un_neg (pv 0))))
      (pss_cons
      (ps_expr (pe_bm PySem.F.plainAttrs_list PySem.F.slot_list_append PySem.F.type_list_append mt_append (pv 1) (pa_cons (pe_op op_sub (pe_bits (pv 2)) pe_int) pa_nil)))
      (pss_one
      (ps_set (i := 0) sc_numbers_of.nd rfl (Or.inl rfl) (pe_op op_xor (pv 0) (pv 2)))))))
      (pss_one
      (ps_ret (pv 1))))), ?_⟩
    refine ⟨Nat.zero_le _, fun N nN => ?_⟩
    generalize hX : upd H N _ = H1; obtain ⟨sH1, eN⟩ := nw nN hX; clear hX
    refine ⟨fun σ H' => ∃ (v0 v2 : Option V) (ns : List Nat), σ = [v0, some (.ref N), v2] ∧ Same H H' ∧ H' N = some (.lst (ns.map VN)) ∧ ns.Pairwise (· < ·) ∧ (∀ i, i ∈ ns ↔ m.testBit i = true), ?_, ?_⟩
    · refine ⟨fun k σ H' => ∃ (m' : Nat) (v2 : Option V) (ns : List Nat), k = m' ∧ σ = [some (.int (m' : Nat)), some (.ref N), v2] ∧ Same H H' ∧ H' N = some (.lst (ns.map VN)) ∧ ns.Pairwise (· < ·) ∧ (∀ i, m.testBit i = true ↔ i ∈ ns ∨ m'.testBit i = true) ∧ ∀ i ∈ ns, ∀ j, m'.testBit j = true → i < j,
        ⟨_, m, none, [], rfl, rfl, sH1, eN, List.Pairwise.nil, fun i => by simp, fun i h => by (cases h)⟩, ?_⟩
      rintro k σ H2 ⟨m', v2, ns, rfl, rfl, s2, e2, hpw, hmem, hlt⟩
      refine ⟨_, rfl, _, _, rfl, rfl, _, rfl, ite_lt (fun c => ?_) (fun c => ?_)⟩
      · have c0 : 0 < k := by omega
        obtain ⟨b, h1, h2, h3, h4, h5, h6⟩ := Mk.low c0
        refine ⟨_, fun _ _ h => h, ?_⟩
        refine ⟨_, rfl, _, rfl, _, rfl, _, _, rfl, rfl, ?_⟩
        show gName 2 (V.int (Builtin.bitAnd (k : Int) (-(k : Int)))) _ _ _
        rw [bitand_neg c0, h2]
        have hb : m.testBit b = true := (hmem b).mpr (.inr h1)
        have hb1 : b < 200 := by
          rcases Nat.lt_or_ge b 200 with z | z
          · exact z
          · rw [Nat.testBit_lt_two_pow (Nat.lt_of_lt_of_le hm2 (Nat.pow_le_pow_right (by decide) z))] at hb
            cases hb
        have hbit : ∀ i, m.testBit i = true → i < 200 := fun i hi => by
          rcases Nat.lt_or_ge i 200 with z | z
          · exact z
          · rw [Nat.testBit_lt_two_pow (Nat.lt_of_lt_of_le hm2 (Nat.pow_le_pow_right (by decide) z))] at hi
            cases hi
        have hnl : ns.length ≤ 200 := asc_len hpw fun i hi => hbit i ((hmem i).mpr (.inl hi))
        refine ⟨_, rfl, .inl ⟨rfl, _, .of e2⟩, _, rfl, _, rfl, _, _, rfl, rfl, N, _, _, rfl, rfl, e2, by rw [List.length_map]; exact Nat.lt_of_le_of_lt hnl (by decide), ?_⟩
        generalize hX : upd H2 N _ = H3; have tH3 := mwt e2 hX; clear e2; obtain ⟨sH3, eN, kH3⟩ := mw s2 nN hX; clear hX
        refine ⟨_, rfl, _, rfl, _, _, rfl, rfl, ?_⟩
        show gName 0 (V.int (Builtin.bitXor (k : Int) ((2 ^ b : Nat) : Int))) _ _ _
        rw [bxor_nat, h3]
        refine ⟨k &&& (k - 1), h4, _, _, ns ++ [b], rfl, rfl, sH3, ?_, ?_, fun i => ?_, fun i hi j hj => ?_⟩
        · rw [eN, List.map_append, bits_pow]
          congr 3
          show [V.int (((b + 1 : Nat) : Int) - 1)] = [V.int (b : Int)]
          rw [show (((b + 1 : Nat) : Int) - 1) = (b : Int) by omega]
        · refine List.pairwise_append.mpr ⟨hpw, by simp, fun x hx y hy => ?_⟩
          rw [List.mem_singleton.mp hy]
          exact hlt x hx b h1
        · rw [hmem i, h5, List.mem_append, List.mem_singleton, Bool.and_eq_true]
          by_cases e : i = b
          · subst e
            exact ⟨fun _ => .inl (.inr rfl), fun _ => .inr h1⟩
          · rw [decide_eq_false e]
            constructor
            · rintro (z | z)
              · exact .inl (.inl z)
              · exact .inr ⟨z, rfl⟩
            · rintro ((z | z) | ⟨z, _⟩)
              · exact .inl z
              · exact absurd z e
              · exact .inr z
        · rw [h5, Bool.and_eq_true, Bool.not_eq_true', decide_eq_false_iff_not] at hj
          rcases List.mem_append.mp hi with z | z
          · exact hlt i z j hj.1
          · rw [List.mem_singleton.mp z]
            have := h6 j hj.1
            omega
      · have : k = 0 := by omega
        subst this
        exact ⟨_, _, ns, rfl, s2, e2, hpw, fun i => by rw [hmem i, Nat.zero_testBit]; simp⟩
    · rintro σ H2 ⟨v0, v2, ns, rfl, s2, e2, hpw, hmem⟩
      have hnl : ns.length ≤ 200 := asc_len hpw fun i hi => by
        have hi := (hmem i).mp hi
        rcases Nat.lt_or_ge i 200 with z | z
        · exact z
        · rw [Nat.testBit_lt_two_pow (Nat.lt_of_lt_of_le hm2 (Nat.pow_le_pow_right (by decide) z))] at hi
          cases hi
      exact ⟨_, rfl, q H2 N ns s2 nN e2 hpw hmem hnl⟩
def cnF (F S : List Nat) (b : Nat) : List Nat := (List.range F.length).map fun p => if p ∈ S then F.getD p 0 ||| b else F.getD p 0
theorem cnF_len (F S : List Nat) (b : Nat) : (cnF F S b).length = F.length := by unfold cnF; rw [List.length_map, List.length_range]
theorem cnF_get {F S : List Nat} {b p : Nat} (h : p < F.length) : (cnF F S b)[p]? = some (if p ∈ S then F.getD p 0 ||| b else F.getD p 0) := by
  unfold cnF
  rw [List.getElem?_map, List.getElem?_range h]
  rfl
theorem cnF_nil (F : List Nat) (b : Nat) : cnF F [] b = F := by
  apply List.ext_getElem?
  intro p
  rcases Nat.lt_or_ge p F.length with h | h
  · rw [cnF_get h, if_neg (by simp), List.getD_eq_getElem?_getD, List.getElem?_eq_getElem h]; rfl
  · rw [List.getElem?_eq_none (by rw [cnF_len]; exact h), List.getElem?_eq_none h]
theorem cnF_snoc {F S : List Nat} {b p : Nat} (h : p < F.length) : (cnF F S b).set p (F.getD p 0 ||| b) = cnF F (S ++ [p]) b := by
  apply List.ext_getElem?
  intro q
  rw [List.getElem?_set]
  by_cases e : p = q
  · subst e
    rw [if_pos rfl, if_pos (by rw [cnF_len]; exact h), cnF_get h, if_pos (by simp)]
  · rw [if_neg e]
    rcases Nat.lt_or_ge q F.length with hq | hq
    · rw [cnF_get hq, cnF_get hq]
      have : q ∈ S ++ [p] ↔ q ∈ S := by rw [List.mem_append, List.mem_singleton]; exact ⟨fun z => z.elim id fun z => absurd z.symm e, .inl⟩
      simp only [this]
    · rw [List.getElem?_eq_none (by rw [cnF_len]; exact hq), List.getElem?_eq_none (by rw [cnF_len]; exact hq)]
def spCon (C : Addr) : Sp := fun vs H Q _ => ∃ (x dx fp : Addr) (fs : List (Str × V)) (a b : Nat) (F : List Nat), vs = [.ref x, .int (a : Nat), .int (b : Nat)] ∧ H x = some (.ins C dx fs) ∧ fs.lookup ("follows" : Str) = some (V.ref fp) ∧ H fp = some (.lst (F.map VN)) ∧ F.length ≤ 100 ∧ (∀ i, a.testBit i = true → i < F.length) ∧
  ∀ (H' : Hp) (S : List Nat), Kp fp H H' → H' fp = some (.lst ((cnF F S b).map VN)) → (∀ i, i ∈ S ↔ a.testBit i = true) → Q .non H'
theorem ok_con {C fC : Addr} {fdQ : FuncData} (T : Txt K mg) (PP : PosC K C) (F : L2.Fun K "connect" "Positions.connect" s_Positions_connect fC fdQ) : FnOk P w K mg base CX0 2 fC fdQ ["self", "before", "behind"] (spCon C) := by
  have C_numbers_of : C8.Cal P w K mg base 1 "numbers_of" spNum [] := cal_num T
  refine F.ok sc_Positions_connect (fun vs H Q E h => ?_) (fun cdv A outer s H vs Q E hr h => ?_)
  · obtain ⟨x, dx, fp, fs, a, b, F, rfl, _⟩ := h
    rfl
  · obtain ⟨x, dx, fp, fs, a, b, F, rfl, hx, hlk, hF, hl, ha, q⟩ := h
    refine ⟨_, (pss_one
      (ps_for PassesOwn.never rfl (pi_list (C8.pe_c C_numbers_of hr (by decide) (by rfl) (pa_cons (pv 1) pa_nil))) (pg_name (i := 3) sc_Positions_connect.nd rfl (.inl rfl)) (pss_one
      (ps_asg (pe_op op_or (pe_ix (ix_listK (K := K) rfl) (pe_fld (pv 0) rfl) (pv 3) (fun _ _ => rfl)) (pv 2)) (pg_sub (pe_fld (pv 0) rfl) (pv 3) set_list))))), ?_⟩
    have nxf : x ≠ fp := fun z => by rw [z, hF] at hx; cases hx
    refine ⟨_, rfl, a, rfl, ?_, fun H1 p ns s1 np ep hpw hmem hnl => ?_⟩
    · exact Nat.lt_of_lt_of_le (Mk.lt_of_bits ha) (Nat.pow_le_pow_right (by decide) (by omega))
    have npf : p ≠ fp := fun z => by rw [z, hF] at np; cases np
    refine ⟨p, rfl, ⟨_, .of ep⟩, for_list (K := K) (a := p) (xs := ns.map VN) (fun i σ H' => ∃ v3 : Option V, σ = [some (.ref x), some (.int (a : Nat)), some (.int (b : Nat)), v3] ∧ Kp fp H1 H' ∧ H' fp = some (.lst ((cnF F (ns.take i) b).map VN)))
      ⟨none, rfl, Kp.refl _ _, by rw [List.take_zero, cnF_nil]; exact s1 _ _ hF⟩ (fun i σ H' _ ⟨_, _, z, _⟩ => .of (z _ _ npf ep)) ?_ ?_⟩
    · rintro i v σ H2 hi ⟨v3, rfl, k2, e2⟩
      obtain ⟨j, hj, rfl⟩ := nats_get hi
      have hjF : j < F.length := ha j ((hmem j).mp (List.mem_of_getElem? hj))
      have hx2 := k2 _ _ nxf (s1 _ _ hx)
      have hnot : j ∉ ns.take i := fun z => by
        obtain ⟨k, hk⟩ := List.mem_iff_getElem?.mp z
        rw [List.getElem?_take] at hk
        split at hk
        · rename_i hki
          have := nd_inj (hpw.imp fun h => Nat.ne_of_lt h) hk hj
          omega
        · cases hk
      refine ⟨_, rfl, x, C, dx, _, _, rfl, hx2, PP.cl, PP.nf, hlk, _, rfl, fp, _, _, VN (F.getD j 0), rfl, rfl, .of e2, ?_, _, rfl, _, _, rfl, rfl, _, rfl, x, C, dx, _, _, rfl, hx2, PP.cl, PP.nf, hlk, _, rfl, fp, _, _, j, rfl, rfl, e2, ?_, ?_⟩
      · refine atN ?_
        rw [cnF_get hjF, if_neg hnot]
      · exact ixN_at (by rw [List.length_map, cnF_len]; exact hjF)
      refine ⟨_, rfl, k2.trans Kp.own, ?_⟩
      rw [upd_same]
      show some (HO.lst (((cnF F (ns.take i) b).map VN).set j (V.int (Builtin.bitOr ((F.getD j 0 : Nat) : Int) (b : Int))))) = _
      rw [bor_nat, show (((cnF F (ns.take i) b).map VN).set j (V.int ((F.getD j 0 ||| b : Nat) : Int))) = ((cnF F (ns.take i) b).set j (F.getD j 0 ||| b)).map VN by rw [List.map_set], cnF_snoc hjF, List.take_add_one, hj]
      rfl
    · rintro σ H2 ⟨v3, rfl, k2, e2⟩
      rw [List.length_map, List.take_length] at e2
      exact q H2 ns ((Same.kp s1).trans k2) e2 hmem
def spAtl (C : Addr) : Sp := fun vs H Q _ => ∃ (x dx lp : Addr) (fs : List (Str × V)) (m : Nat) (l : Int) (L : List Int), vs = [.ref x, .int (m : Nat), .int l] ∧ H x = some (.ins C dx fs) ∧ fs.lookup ("letters" : Str) = some (V.ref lp) ∧ H lp = some (.lst (L.map V.int)) ∧ L.length ≤ 100 ∧ (∀ i, m.testBit i = true → i < L.length) ∧
  ∀ (H' : Hp) (r : Nat), Same H H' → (∀ i, r.testBit i = true ↔ m.testBit i = true ∧ L[i]? = some l) → Q (.int (r : Nat)) H'
theorem ok_atl {C fL : Addr} {fdL : FuncData} (T : Txt K mg) (PP : PosC K C) (F : L2.Fun K "at_letter" "Positions.at_letter" s_Positions_at_letter fL fdL) : FnOk P w K mg base CX0 2 fL fdL ["self", "mask", "letter"] (spAtl C) := by
  have C_numbers_of : C8.Cal P w K mg base 1 "numbers_of" spNum [] := cal_num T
  refine F.ok sc_Positions_at_letter (fun vs H Q E h => ?_) (fun cdv A outer s H vs Q E hr h => ?_)
  · obtain ⟨x, dx, lp, fs, m, l, L, rfl, _⟩ := h
    rfl
  · obtain ⟨x, dx, lp, fs, m, l, L, rfl, hx, hlk, hL, hl, hm, q⟩ := h
    refine ⟨_, (pss_cons
      (ps_set (i := 3) sc_Positions_at_letter.nd rfl (Or.inl rfl) pe_int)
      (pss_cons
      (ps_for PassesOwn.never rfl (pi_list (C8.pe_c C_numbers_of hr (by decide) (by rfl) (pa_cons (pv 1) pa_nil))) (pg_name (i := 4) sc_Positions_at_letter.nd rfl (.inl rfl)) (pss_one
      (ps_if (pt_cmpR op_eq (pe_ix (ix_listK (K := K) rfl) (pe_fld (pv 0) rfl) (pv 4) (fun _ _ => rfl)) (pv 2) (nomark _)) (pss_one
      (ps_set (i := 3) sc_Positions_at_letter.nd rfl (Or.inl rfl) (pe_op op_or (pv 3) (pe_op op_shl pe_int (pv 4))))) pss_nil)))
      (pss_one
      (ps_ret (pv 3))))), ?_⟩
    refine ⟨_, rfl, m, rfl, ?_, fun H1 p ns s1 np ep hpw hmem hnl => ?_⟩
    · exact Nat.lt_of_lt_of_le (Mk.lt_of_bits hm) (Nat.pow_le_pow_right (by decide) (by omega))
    refine ⟨p, rfl, ⟨_, .of ep⟩, for_list (K := K) (a := p) (xs := ns.map VN) (fun i σ H' => ∃ (v4 : Option V) (r : Nat), σ = [some (.ref x), some (.int (m : Nat)), some (.int l), some (.int (r : Nat)), v4] ∧ H' = H1 ∧ ∀ j, r.testBit j = true ↔ j ∈ ns.take i ∧ L[j]? = some l)
      ⟨none, 0, rfl, rfl, fun j => by rw [Nat.zero_testBit]; simp⟩ (fun i σ H' _ ⟨_, _, _, z, _⟩ => by rw [z]; exact .of ep) ?_ ?_⟩
    · rintro i v σ H2 hi ⟨v4, r, rfl, rfl, hr⟩
      obtain ⟨j, hj, rfl⟩ := nats_get hi
      have hjL : j < L.length := hm j ((hmem j).mp (List.mem_of_getElem? hj))
      obtain ⟨z, hz⟩ : ∃ z, L[j]? = some z := ⟨_, List.getElem?_eq_getElem hjL⟩
      have htk : ns.take (i + 1) = ns.take i ++ [j] := by rw [List.take_add_one, hj]; rfl
      refine ⟨_, rfl, x, C, dx, _, _, rfl, s1 _ _ hx, PP.cl, PP.nl, hlk, _, rfl, lp, _, _, .int z, rfl, rfl, .of (s1 _ _ hL), atN hz, _, rfl, rfl, _, rfl, ite_eq (fun c => ?_) (fun c => ?_)⟩
      · subst c
        refine ⟨_, rfl, _, rfl, _, _, rfl, rfl, ⟨by omega, by omega, by decide⟩, _, _, rfl, rfl, ?_⟩
        refine ⟨some (VN j), r ||| 2 ^ j, ?_, rfl, fun k => ?_⟩
        · show [some (V.ref x), some (V.int (m : Nat)), some (V.int z), some (V.int (Builtin.bitOr (r : Int) (1 * 2 ^ ((j : Int)).toNat))), some (VN j)] = _
          rw [Int.one_mul, Int.toNat_natCast, show ((2 : Int) ^ j) = ((2 ^ j : Nat) : Int) by push_cast; rfl, bor_nat]
        · rw [Nat.testBit_or, Nat.testBit_two_pow, Bool.or_eq_true, hr k, decide_eq_true_iff, htk, List.mem_append, List.mem_singleton]
          constructor
          · rintro (⟨h1, h2⟩ | h)
            · exact ⟨.inl h1, h2⟩
            · exact ⟨.inr h.symm, by rw [← h]; exact hz⟩
          · rintro ⟨h1 | h1, h2⟩
            · exact .inl ⟨h1, h2⟩
            · exact .inr h1.symm
      · refine ⟨_, r, rfl, rfl, fun k => ?_⟩
        rw [hr k, htk, List.mem_append, List.mem_singleton]
        constructor
        · rintro ⟨h1, h2⟩
          exact ⟨.inl h1, h2⟩
        · rintro ⟨h1 | h1, h2⟩
          · exact ⟨h1, h2⟩
          · rw [h1, hz] at h2
            exact absurd (Option.some.inj h2) c
    · rintro σ H2 ⟨v4, r, rfl, rfl, hr⟩
      rw [List.length_map, List.take_length] at hr
      exact ⟨_, rfl, q H2 r s1 fun j => by rw [hr j, hmem j]⟩
open Gk (Ex Lg nul np fs la fo)
/-- tuples stay -/
def TK (H H' : Hp) : Prop := ∀ b o, (∃ xs, o = .tup xs) ∨ (∃ ob xs, o = .frz ob (.tup xs)) → H b = some o → H' b = some o
theorem TK.of {H H' : Hp} (s : Same H H') : TK H H' := fun b o _ e => s b o e
theorem TK.trans {H H1 H2 : Hp} (a : TK H H1) (b : TK H1 H2) : TK H H2 := fun x o n e => b x o n (a x o n e)
theorem TK.kp {d : Addr} {H H' : Hp} {o : HO} (k : Kp d H H') (hd : H d = some o) (n : ∀ xs, o ≠ .tup xs) (n2 : ∀ ob xs, o ≠ .frz ob (.tup xs)) : TK H H' := fun b o' h e => k b o' (fun z => by
  rw [z, hd] at e
  obtain rfl := Option.some.inj e
  rcases h with ⟨xs, h⟩ | ⟨ob, xs, h⟩
  · exact n xs h
  · exact n2 ob xs h) e
theorem sqt_tk {K : PySem.W.Frag} {H H' : Hp} {a : Addr} {xs : List V} (s : TK H H') (h : SqT K H a xs) : SqT K H' a xs := by
  rcases h with (h | ⟨o, h⟩) | h
  · exact .inl (.inl (s _ _ (.inl ⟨_, rfl⟩) h))
  · exact .inl (.inr ⟨o, s _ _ (.inr ⟨_, _, rfl⟩) h⟩)
  · exact .inr h
def ExAt (K : PySem.W.Frag) (H : Hp) : V → Ex → Prop
  | v, .none => ∃ a, v = .ref a ∧ SqT K H a [.str "none"]
  | v, .empty => ∃ a, v = .ref a ∧ SqT K H a [.str "empty"]
  | v, .let_ z => ∃ a, v = .ref a ∧ SqT K H a [.str "letter", .int z]
  | v, .star e => ∃ a x, v = .ref a ∧ SqT K H a [.str "star", x] ∧ ExAt K H x e
  | v, .join e f => ∃ a x y, v = .ref a ∧ SqT K H a [.str "join", x, y] ∧ ExAt K H x e ∧ ExAt K H y f
  | v, .alt e f => ∃ a x y, v = .ref a ∧ SqT K H a [.str "either", x, y] ∧ ExAt K H x e ∧ ExAt K H y f
theorem ExAt.tk {K : PySem.W.Frag} {H H' : Hp} (s : TK H H') : ∀ {e : Ex} {v : V}, ExAt K H v e → ExAt K H' v e
  | .none, _, ⟨a, e, h⟩ => ⟨a, e, sqt_tk s h⟩
  | .empty, _, ⟨a, e, h⟩ => ⟨a, e, sqt_tk s h⟩
  | .let_ _, _, ⟨a, e, h⟩ => ⟨a, e, sqt_tk s h⟩
  | .star _, _, ⟨a, x, e, h, h1⟩ => ⟨a, x, e, sqt_tk s h, ExAt.tk s h1⟩
  | .join _ _, _, ⟨a, x, y, e, h, h1, h2⟩ => ⟨a, x, y, e, sqt_tk s h, ExAt.tk s h1, ExAt.tk s h2⟩
  | .alt _ _, _, ⟨a, x, y, e, h, h1, h2⟩ => ⟨a, x, y, e, sqt_tk s h, ExAt.tk s h1, ExAt.tk s h2⟩
theorem ExAt.same {K : PySem.W.Frag} {H H' : Hp} {e : Ex} {v : V} (s : Same H H') (h : ExAt K H v e) : ExAt K H' v e := ExAt.tk (TK.of s) h
def dep : Ex → Nat
  | .none => 0
  | .empty => 0
  | .let_ _ => 0
  | .star e => dep e + 1
  | .join e f => max (dep e) (dep f) + 1
  | .alt e f => max (dep e) (dep f) + 1
/-- the mask of the places from n on -/
def Mo (n m : Nat) (f : Nat → Bool) : Prop := ∀ q, m.testBit q = true ↔ n ≤ q ∧ f (q - n) = true
theorem Mo.or {n k a b : Nat} {f g : Nat → Bool} (h : Mo n a f) (h2 : Mo (n + k) b g) : Mo n (a ||| b) (fun i => f i || (decide (k ≤ i) && g (i - k))) := fun q => by
  rw [Nat.testBit_or, Bool.or_eq_true, h q, h2 q, Bool.or_eq_true, Bool.and_eq_true, decide_eq_true_iff]
  constructor
  · rintro (⟨h1, h2⟩ | ⟨h1, h2⟩)
    · exact ⟨h1, .inl h2⟩
    · exact ⟨by omega, .inr ⟨by omega, by rw [show q - n - k = q - (n + k) by omega]; exact h2⟩⟩
  · rintro ⟨h1, h2 | ⟨h2, h3⟩⟩
    · exact .inl ⟨h1, h2⟩
    · exact .inr ⟨by omega, by rw [show q - (n + k) = q - n - k by omega]; exact h3⟩
theorem Mo.cong {n m : Nat} {f g : Nat → Bool} (h : Mo n m f) (e : ∀ i, f i = g i) : Mo n m g := fun q => by rw [h q, e]
theorem Mo.lt {n m k : Nat} {f : Nat → Bool} (h : Mo n m f) (b : ∀ i, f i = true → i < k) : ∀ q, m.testBit q = true → q < n + k := fun q hq => by
  have := (h q).mp hq
  have := b _ this.2
  omega
/-- the follow masks of a part that begins at place n -/
def Fo (n : Nat) (F : List Nat) (e : Ex) : Prop := ∀ p, p < np e → ∀ q, (F.getD (n + p) 0).testBit q = true ↔ n ≤ q ∧ fo e p (q - n) = true
def Kl2 (a b : Addr) (H H' : Hp) : Prop := ∀ c o, c ≠ a → c ≠ b → H c = some o → H' c = some o
theorem Kl2.trans {a b : Addr} {H H1 H2 : Hp} (h : Kl2 a b H H1) (k : Kl2 a b H1 H2) : Kl2 a b H H2 := fun c o n1 n2 e => k c o n1 n2 (h c o n1 n2 e)
theorem Kl2.same {a b : Addr} {H H' : Hp} (s : Same H H') : Kl2 a b H H' := fun c o _ _ e => s c o e
theorem Kl2.kpA {a b : Addr} {H H' : Hp} (k : Kp a H H') : Kl2 a b H H' := fun c o n _ e => k c o n e
theorem Kl2.kpB {a b : Addr} {H H' : Hp} (k : Kp b H H') : Kl2 a b H H' := fun c o _ n e => k c o n e
theorem Kl2.tk {a b : Addr} {H H' : Hp} {xs ys : List V} (k : Kl2 a b H H') (ha : H a = some (.lst xs)) (hb : H b = some (.lst ys)) : TK H H' := fun c o h e => by
  refine k c o (fun z => ?_) (fun z => ?_) e
  · rw [z, ha] at e
    obtain rfl := Option.some.inj e
    rcases h with ⟨_, h⟩ | ⟨_, _, h⟩ <;> cases h
  · rw [z, hb] at e
    obtain rfl := Option.some.inj e
    rcases h with ⟨_, h⟩ | ⟨_, _, h⟩ <;> cases h
def spAdd (K : PySem.W.Frag) (C : Addr) : Nat → Sp
  | 0 => fun _ _ _ _ => False
  | n + 1 => fun vs H Q _ => ∃ (x dx lp fp : Addr) (fs' : List (Str × V)) (v : V) (e : Ex) (L : List Int) (F : List Nat), vs = [.ref x, v] ∧ H x = some (.ins C dx fs') ∧ fs'.lookup ("letters" : Str) = some (V.ref lp) ∧ fs'.lookup ("follows" : Str) = some (V.ref fp) ∧ fs'.lookup ("add_part" : Str) = none ∧ fs'.lookup ("connect" : Str) = none ∧
    H lp = some (.lst (L.map V.int)) ∧ H fp = some (.lst (F.map VN)) ∧ lp ≠ fp ∧ F.length = L.length ∧ L.length + np e ≤ 100 ∧ ExAt K H v e ∧ dep e ≤ n ∧
    ∀ (H' : Hp) (t : Addr) (F' : List Nat) (mf ml : Nat), Kl2 lp fp H H' → H' lp = some (.lst ((L ++ Gk.lt e).map V.int)) → H' fp = some (.lst (F'.map VN)) → F'.length = L.length + np e → (∀ p, p < L.length → F'.getD p 0 = F.getD p 0) → Fo L.length F' e →
      H' t = some (.tup [.int (mf : Nat), .int (ml : Nat), .bl (nul e)]) → Mo L.length mf (fs e) → Mo L.length ml (la e) → Q (.ref t) H'
theorem str_dec (a b : Str) : decide (V.str a = V.str b) = decide (a = b) := by
  by_cases c : a = b
  · rw [c, decide_eq_true rfl, decide_eq_true rfl]
  · rw [decide_eq_false c, decide_eq_false (fun z => c (V.str.inj z))]
open Gk (Ex Lg nul np fs la fo)
theorem mo_zero (n : Nat) : Mo n 0 (fun _ => false) := fun q => by rw [Nat.zero_testBit]; exact ⟨fun h => by (cases h), fun h => by cases h.2⟩
theorem cnF_getD {F S : List Nat} {b p : Nat} (h : p < F.length) : (cnF F S b).getD p 0 = if p ∈ S then F.getD p 0 ||| b else F.getD p 0 := by
  rw [List.getD_eq_getElem?_getD, cnF_get h]; rfl
theorem ok_add_step {C fA fC : Addr} {fdA fdQ : FuncData} {n : Nat} (T : Txt K mg) (PP : PosC K C) (MA : Meth K C "add_part" fA) (bA : Binds K fdA ["self", "expression"] []) (MC : Meth K C "connect" fC) (F2 : L2.Fun K "connect" "Positions.connect" s_Positions_connect fC fdQ) (bC : Binds K fdQ ["self", "before", "behind"] [])
    (F : L2.Fun K "add_part" "Positions.add_part" s_Positions_add_part fA fdA) (FA : FnOk P w K mg base CX0 (2 + n) fA fdA ["self", "expression"] (spAdd K C n)) : FnOk P w K mg base CX0 (2 + n + 1) fA fdA ["self", "expression"] (spAdd K C (n + 1)) := by
  have FC : FnOk P w K mg base CX0 2 fC fdQ ["self", "before", "behind"] (spCon C) := ok_con T PP F2
  refine F.ok sc_Positions_add_part (fun vs H Q E h => ?_) (fun cdv A outer s H vs Q E hr h => ?_)
  · obtain ⟨x, dx, lp, fp, fs', v, e, L, F, rfl, _⟩ := h
    rfl
  · obtain ⟨x, dx, lp, fp, fs', v, e, L, F, rfl, hx, k1, k2, k3, k4, hL, hF, nlf, hFL, hb, he, hd, q⟩ := h
    refine ⟨_, (pss_cons
      (ps_set (i := 2) sc_Positions_add_part.nd rfl (Or.inl rfl) (pe_ix (ix_tupK (K := K) rfl) (pv 1) pe_int (fun _ _ => rfl)))
      (pss_cons
      (ps_if (pt_cmpR op_eq (pv 2) pe_str (nomark _)) (pss_cons
      (ps_set (i := 3) sc_Positions_add_part.nd rfl (Or.inl rfl) (pe_op op_shl pe_int (pe_callB (call_lenK (K := K) rfl) (by rfl) T.z_len PySem.boot_len (pa_cons (pe_fld (pv 0) rfl) pa_nil))))
      (pss_cons
      (ps_expr (pe_bm PySem.F.plainAttrs_list PySem.F.slot_list_append PySem.F.type_list_append mt_append (pe_fld (pv 0) rfl) (pa_cons (pe_ix (ix_tupK (K := K) rfl) (pv 1) pe_int (fun _ _ => rfl)) pa_nil)))
      (pss_cons
      (ps_expr (pe_bm PySem.F.plainAttrs_list PySem.F.slot_list_append PySem.F.type_list_append mt_append (pe_fld (pv 0) rfl) (pa_cons pe_int pa_nil)))
      (pss_one
      (ps_ret (pe_tup (pa_cons (pv 3) (pa_cons (pv 3) (pa_cons pe_bl pa_nil))))))))) pss_nil)
      (pss_cons
      (ps_if (pt_cmpR (op_inK (K := K) rfl) (pv 2) (pe_tup (pa_cons pe_str (pa_cons pe_str pa_nil))) (by rfl)) (pss_one
      (ps_ret (pe_tup (pa_cons pe_int (pa_cons pe_int (pa_cons (pe_cmpR op_eq (pv 2) pe_str (nomark _)) pa_nil)))))) pss_nil)
      (pss_cons
      (ps_asg (pe_meth (pv 0) PP.cl MA FA (hr.mono (by omega)) bA .nil pass0 (pa_cons (pe_ix (ix_tupK (K := K) rfl) (pv 1) pe_int (fun _ _ => rfl)) pa_nil)) (pg_tup (by rfl) (pgs_cons (pg_name (i := 4) sc_Positions_add_part.nd rfl (.inl rfl)) (pgs_cons (pg_name (i := 5) sc_Positions_add_part.nd rfl (.inl rfl)) (pgs_cons (pg_name (i := 6) sc_Positions_add_part.nd rfl (.inl rfl)) pgs_nil)))))
      (pss_cons
      (ps_if (pt_cmpR op_eq (pv 2) pe_str (nomark _)) (pss_cons
      (ps_expr (pe_meth (pv 0) PP.cl MC FC (hr.mono (by omega)) bC .nil pass0 (pa_cons (pv 5) (pa_cons (pv 4) pa_nil))))
      (pss_one
      (ps_ret (pe_tup (pa_cons (pv 4) (pa_cons (pv 5) (pa_cons pe_bl pa_nil))))))) pss_nil)
      (pss_cons
      (ps_asg (pe_meth (pv 0) PP.cl MA FA (hr.mono (by omega)) bA .nil pass0 (pa_cons (pe_ix (ix_tupK (K := K) rfl) (pv 1) pe_int (fun _ _ => rfl)) pa_nil)) (pg_tup (by rfl) (pgs_cons (pg_name (i := 7) sc_Positions_add_part.nd rfl (.inl rfl)) (pgs_cons (pg_name (i := 8) sc_Positions_add_part.nd rfl (.inl rfl)) (pgs_cons (pg_name (i := 9) sc_Positions_add_part.nd rfl (.inl rfl)) pgs_nil)))))
      (pss_cons
      (ps_if (pt_cmpR op_eq (pv 2) pe_str (nomark _)) (pss_one
      (ps_ret (pe_tup (pa_cons (pe_op op_or (pv 4) (pv 7)) (pa_cons (pe_op op_or (pv 5) (pv 8)) (pa_cons (pe_or (pv 6) (pe_one (pv 9))) pa_nil)))))) pss_nil)
      (pss_cons
      (ps_expr (pe_meth (pv 0) PP.cl MC FC (hr.mono (by omega)) bC .nil pass0 (pa_cons (pv 5) (pa_cons (pv 7) pa_nil))))
      (pss_one
      (ps_ret (pe_tup (pa_cons (pe_ifExp (pt_val (pv 6)) (pe_op op_or (pv 4) (pv 7)) (pv 4)) (pa_cons (pe_ifExp (pt_val (pv 9)) (pe_op op_or (pv 5) (pv 8)) (pv 8)) (pa_cons (pe_and (pv 6) (pe_one (pv 9))) pa_nil)))))))))))))), ?_⟩
    have nxl : x ≠ lp := fun z => by rw [z, hL] at hx; cases hx
    have nxf : x ≠ fp := fun z => by rw [z, hF] at hx; cases hx
    cases e with
    | let_ z =>
      obtain ⟨a, rfl, ha⟩ := he
      refine ⟨_, rfl, a, _, _, _, rfl, rfl, ha, rfl, ?_⟩
      refine ⟨_, rfl, rfl, _, rfl, iteT ?_⟩
      have hb : L.length + 1 ≤ 100 := hb
      refine ⟨_, rfl, x, C, dx, _, _, rfl, hx, PP.cl, PP.nl, k1, lp, _, rfl, .inl (.of hL), _, _, rfl, rfl, ⟨by omega, by rw [List.length_map]; omega, by decide⟩, ?_⟩
      refine ⟨_, rfl, x, C, dx, _, _, rfl, hx, PP.cl, PP.nl, k1, .inl ⟨rfl, _, .of hL⟩, _, rfl, a, _, _, .int z, rfl, rfl, ha, rfl, lp, _, _, rfl, rfl, hL, by rw [List.length_map]; exact Nat.lt_of_le_of_lt (show L.length ≤ 100 by omega) (by decide), ?_⟩
      have k5 : Kp lp H (upd H lp (.lst (L.map V.int ++ [V.int z]))) := Kp.own
      have e5 : (upd H lp (.lst (L.map V.int ++ [V.int z]))) lp = some (.lst ((L ++ [z]).map V.int)) := by rw [upd_same, List.map_append]; rfl
      generalize upd H lp (.lst (L.map V.int ++ [V.int z])) = H1 at k5 e5 ⊢
      have hF1 := k5 _ _ nlf.symm hF
      refine ⟨_, rfl, x, C, dx, _, _, rfl, k5 _ _ nxl hx, PP.cl, PP.nf, k2, .inl ⟨rfl, _, .of hF1⟩, fp, _, _, rfl, rfl, hF1, by rw [List.length_map]; exact Nat.lt_of_le_of_lt (show F.length ≤ 100 by omega) (by decide), ?_⟩
      have k6 : Kp fp H1 (upd H1 fp (.lst (F.map VN ++ [V.int 0]))) := Kp.own
      have e6 : (upd H1 fp (.lst (F.map VN ++ [V.int 0]))) fp = some (.lst ((F ++ [0]).map VN)) := by rw [upd_same, List.map_append]; rfl
      generalize upd H1 fp (.lst (F.map VN ++ [V.int 0])) = H2 at k6 e6 ⊢
      have e7 := k6 _ _ nlf e5
      refine ⟨_, rfl, _, rfl, by show 3 ≤ sizeLine; decide, fun t nt => ?_⟩
      generalize hX : upd H2 t _ = H3; obtain ⟨sH3, et⟩ := nw nt hX; clear hX
      have hmk : Mo L.length (2 ^ L.length) (fun i => decide (i = 0)) := fun q => by
        rw [Nat.testBit_two_pow, decide_eq_true_iff, decide_eq_true_iff]
        omega
      refine q H3 t (F ++ [0]) (2 ^ L.length) (2 ^ L.length) ((Kl2.kpA k5).trans ((Kl2.kpB k6).trans (Kl2.same sH3))) (sH3 _ _ e7) (sH3 _ _ e6) (by rw [List.length_append, hFL]; rfl) (fun p hp => ?_) (fun p hp q => ?_) ?_ hmk hmk
      · rw [List.getD_eq_getElem?_getD, List.getD_eq_getElem?_getD, List.getElem?_append_left (by omega)]
      · have : p = 0 := by have : p < 1 := hp; omega
        subst this
        rw [List.getD_eq_getElem?_getD, List.getElem?_append_right (by omega), show L.length + 0 - F.length = 0 by omega]
        show Nat.testBit 0 q = true ↔ _
        rw [Nat.zero_testBit]
        exact ⟨fun h => by (cases h), fun h => by cases h.2⟩
      · rw [et]
        show some (HO.tup [V.int (1 * 2 ^ (((L.map V.int).length : Nat) : Int).toNat), V.int (1 * 2 ^ (((L.map V.int).length : Nat) : Int).toNat), V.bl false]) = _
        rw [Int.one_mul, Int.toNat_natCast, List.length_map, show ((2 : Int) ^ L.length) = ((2 ^ L.length : Nat) : Int) by push_cast; rfl]
        rfl
    | none =>
      obtain ⟨a, rfl, ha⟩ := he
      refine ⟨_, rfl, a, _, _, _, rfl, rfl, ha, rfl, ?_⟩
      refine ⟨_, rfl, rfl, _, rfl, iteF ?_⟩
      refine ⟨_, rfl, by show 2 ≤ sizeLine; decide, fun t1 nt1 => ?_⟩
      generalize hX : upd H t1 _ = H1; obtain ⟨sH1, et1⟩ := nw nt1 hX; clear hX
      refine ⟨t1, _, rfl, .inr (.of et1), rfl, rfl, _, rfl, ?_⟩
      refine iteB_t (by rfl) ?_
      refine ⟨_, rfl, rfl, by show 3 ≤ sizeLine; decide, fun t nt => ?_⟩
      generalize hX : upd H1 t _ = H2; obtain ⟨sH2, et⟩ := nw nt hX; clear hX
      have s2 := sH1.trans sH2
      exact q H2 t F 0 0 (Kl2.same s2) (by rw [show Gk.lt Ex.none = [] from rfl, List.append_nil]; exact s2 _ _ hL) (s2 _ _ hF) hFL (fun p hp => rfl) (fun p hp => absurd hp (Nat.not_lt_zero p)) (by rw [et, str_dec]; rfl) (mo_zero _) (mo_zero _)
    | empty =>
      obtain ⟨a, rfl, ha⟩ := he
      refine ⟨_, rfl, a, _, _, _, rfl, rfl, ha, rfl, ?_⟩
      refine ⟨_, rfl, rfl, _, rfl, iteF ?_⟩
      refine ⟨_, rfl, by show 2 ≤ sizeLine; decide, fun t1 nt1 => ?_⟩
      generalize hX : upd H t1 _ = H1; obtain ⟨sH1, et1⟩ := nw nt1 hX; clear hX
      refine ⟨t1, _, rfl, .inr (.of et1), rfl, rfl, _, rfl, ?_⟩
      refine iteB_t (by rfl) ?_
      refine ⟨_, rfl, rfl, by show 3 ≤ sizeLine; decide, fun t nt => ?_⟩
      generalize hX : upd H1 t _ = H2; obtain ⟨sH2, et⟩ := nw nt hX; clear hX
      have s2 := sH1.trans sH2
      exact q H2 t F 0 0 (Kl2.same s2) (by rw [show Gk.lt Ex.empty = [] from rfl, List.append_nil]; exact s2 _ _ hL) (s2 _ _ hF) hFL (fun p hp => rfl) (fun p hp => absurd hp (Nat.not_lt_zero p)) (by rw [et, str_dec]; rfl) (mo_zero _) (mo_zero _)
    | star e =>
      obtain ⟨a, v1, rfl, ha, hv⟩ := he
      obtain ⟨n', rfl⟩ : ∃ n', n = n' + 1 := by
        cases n with
        | zero => exact absurd hd (by show ¬ dep e + 1 ≤ 0; omega)
        | succ n' => exact ⟨n', rfl⟩
      have hd : dep e + 1 ≤ n' + 1 := hd
      have hb : L.length + np e ≤ 100 := hb
      refine ⟨_, rfl, a, _, _, _, rfl, rfl, ha, rfl, ?_⟩
      refine ⟨_, rfl, rfl, _, rfl, iteF ?_⟩
      refine ⟨_, rfl, by show 2 ≤ sizeLine; decide, fun t1 nt1 => ?_⟩
      generalize hX : upd H t1 _ = H1; obtain ⟨sH1, et1⟩ := nw nt1 hX; clear hX
      refine ⟨t1, _, rfl, .inr (.of et1), rfl, rfl, _, rfl, ?_⟩
      refine iteB_f (by rfl) ?_
      refine ⟨_, rfl, x, dx, fs', rfl, sH1 _ _ hx, k3, _, rfl, a, _, _, _, rfl, rfl, sqt_tk (TK.of sH1) ha, rfl, x, dx, lp, fp, fs', v1, e, L, F, rfl, sH1 _ _ hx, k1, k2, k3, k4, sH1 _ _ hL, sH1 _ _ hF, nlf, hFL, hb, hv.same sH1, by omega, fun H2 t F2 mf ml c2 hL2 hF2 hl2 hk2 hfo et hmf hml => ?_⟩
      refine ⟨t, _, rfl, .of et, rfl, _, _, rfl, _, _, rfl, _, _, rfl, rfl, ?_⟩
      have hx2 := c2 _ _ nxl nxf (sH1 _ _ hx)
      have hmlS : ∀ i, ml.testBit i = true → i < F2.length := fun i hi => by rw [hl2]; exact hml.lt (fun j hj => Gk.la_lt hj) i hi
      refine ⟨_, rfl, rfl, _, rfl, iteT ?_⟩
      refine ⟨_, rfl, x, dx, fs', rfl, hx2, k4, _, rfl, _, rfl, x, dx, fp, fs', ml, mf, F2, rfl, hx2, k2, hF2, by rw [hl2]; exact hb, hmlS, fun H3 S kp3 hF3 hS => ?_⟩
      have ntl : t ≠ fp := fun z => by rw [z, hF2] at et; cases et
      refine ⟨_, rfl, _, rfl, by show 3 ≤ sizeLine; decide, fun t2 nt2 => ?_⟩
      generalize hX : upd H3 t2 _ = H4; obtain ⟨sH4, et2⟩ := nw nt2 hX; clear hX
      refine q H4 t2 (cnF F2 S mf) mf ml (((Kl2.same sH1).trans c2).trans ((Kl2.kpB kp3).trans (Kl2.same sH4))) (sH4 _ _ (kp3 _ _ nlf hL2)) (sH4 _ _ hF3) (by rw [cnF_len]; exact hl2) (fun p hp => ?_) (fun p hp q => ?_) ?_ hmf hml
      · rw [cnF_getD (by omega), if_neg (fun z => by have := (hml p).mp ((hS p).mp z); omega)]
        exact hk2 p hp
      · have hp : p < np e := hp
        rw [cnF_getD (by omega)]
        show _ ↔ L.length ≤ q ∧ (fo e p (q - L.length) || (la e p && fs e (q - L.length))) = true
        rw [Bool.or_eq_true, Bool.and_eq_true]
        have hla : L.length + p ∈ S ↔ la e p = true := by
          rw [hS, hml, show L.length + p - L.length = p by omega]
          exact ⟨fun h => h.2, fun h => ⟨by omega, h⟩⟩
        by_cases c : L.length + p ∈ S
        · rw [if_pos c, Nat.testBit_or, Bool.or_eq_true, hfo p hp q, hmf q]
          have c := hla.mp c
          constructor
          · rintro (⟨h1, h2⟩ | ⟨h1, h2⟩)
            · exact ⟨h1, .inl h2⟩
            · exact ⟨h1, .inr ⟨c, h2⟩⟩
          · rintro ⟨h1, h2 | ⟨_, h2⟩⟩
            · exact .inl ⟨h1, h2⟩
            · exact .inr ⟨h1, h2⟩
        · rw [if_neg c, hfo p hp q]
          constructor
          · rintro ⟨h1, h2⟩
            exact ⟨h1, .inl h2⟩
          · rintro ⟨h1, h2 | ⟨h2, _⟩⟩
            · exact ⟨h1, h2⟩
            · exact absurd (hla.mpr h2) c
      · rw [et2]; rfl
    | join e f =>
      obtain ⟨a, v1, v2, rfl, ha, hv, hw⟩ := he
      obtain ⟨n', rfl⟩ : ∃ n', n = n' + 1 := by
        cases n with
        | zero => exact absurd hd (by show ¬ max (dep e) (dep f) + 1 ≤ 0; omega)
        | succ n' => exact ⟨n', rfl⟩
      have hd : max (dep e) (dep f) + 1 ≤ n' + 1 := hd
      have hnp : np (.join e f) = np e + np f := Gk.np_join e f
      rw [hnp] at hb
      refine ⟨_, rfl, a, _, _, _, rfl, rfl, ha, rfl, ?_⟩
      refine ⟨_, rfl, rfl, _, rfl, iteF ?_⟩
      refine ⟨_, rfl, by show 2 ≤ sizeLine; decide, fun t1 nt1 => ?_⟩
      generalize hX : upd H t1 _ = H1; obtain ⟨sH1, et1⟩ := nw nt1 hX; clear hX
      refine ⟨t1, _, rfl, .inr (.of et1), rfl, rfl, _, rfl, ?_⟩
      refine iteB_f (by rfl) ?_
      refine ⟨_, rfl, x, dx, fs', rfl, sH1 _ _ hx, k3, _, rfl, a, _, _, _, rfl, rfl, sqt_tk (TK.of sH1) ha, rfl, x, dx, lp, fp, fs', v1, e, L, F, rfl, sH1 _ _ hx, k1, k2, k3, k4, sH1 _ _ hL, sH1 _ _ hF, nlf, hFL, by omega, hv.same sH1, by omega, fun H2 t F2 mf ml c2 hL2 hF2 hl2 hk2 hfo et hmf hml => ?_⟩
      refine ⟨t, _, rfl, .of et, rfl, _, _, rfl, _, _, rfl, _, _, rfl, rfl, ?_⟩
      have c02 := (Kl2.same sH1).trans c2
      have hx2 := c02 _ _ nxl nxf hx
      have tk2 := Kl2.tk c02 hL hF
      refine ⟨_, rfl, rfl, _, rfl, iteF ?_⟩
      have hLl : (L ++ Gk.lt e).length = L.length + np e := List.length_append
      refine ⟨_, rfl, x, dx, fs', rfl, hx2, k3, _, rfl, a, _, _, _, rfl, rfl, sqt_tk tk2 ha, rfl, x, dx, lp, fp, fs', v2, f, L ++ Gk.lt e, F2, rfl, hx2, k1, k2, k3, k4, hL2, hF2, nlf, by rw [hLl]; exact hl2, by rw [hLl]; omega, hw.tk tk2, by omega, fun H3 u F3 nf nl c3 hL3 hF3 hl3 hk3 hfo3 eu hnf hnl => ?_⟩
      rw [hLl] at hl3 hk3 hfo3 hnf hnl
      rw [List.append_assoc] at hL3
      refine ⟨u, _, rfl, .of eu, rfl, _, _, rfl, _, _, rfl, _, _, rfl, rfl, ?_⟩
      have c03 := c02.trans c3
      have hx3 := c03 _ _ nxl nxf hx
      have hkeep : ∀ p, p < L.length → F3.getD p 0 = F.getD p 0 := fun p hp => by rw [hk3 p (by omega), hk2 p hp]
      refine ⟨_, rfl, rfl, _, rfl, iteF ?_⟩
      have hmlS : ∀ i, ml.testBit i = true → i < F3.length := fun i hi => by
        have := hml.lt (fun j hj => Gk.la_lt hj) i hi
        omega
      refine ⟨_, rfl, x, dx, fs', rfl, hx3, k4, _, rfl, _, rfl, x, dx, fp, fs', ml, nf, F3, rfl, hx3, k2, hF3, by omega, hmlS, fun H4 S kp4 hF4 hS => ?_⟩
      have hL4 := kp4 _ _ nlf hL3
      have c04 := c03.trans (Kl2.kpB kp4)
      have fin : ∀ (z1 z2 : Int) (r : Bool) (t3 : Addr), z1 = ((if nul e = true then mf ||| nf else mf : Nat) : Int) → z2 = ((if nul f = true then ml ||| nl else nl : Nat) : Int) → r = (nul e && nul f) → H4 t3 = none → Q (.ref t3) (upd H4 t3 (.tup [.int z1, .int z2, .bl r])) := fun z1 z2 r t3 h1 h2 hr nt3 => by
        rw [h1, h2, hr]
        generalize hX : upd H4 t3 _ = H5; obtain ⟨sH5, et3⟩ := nw nt3 hX; clear hX
        refine q H5 t3 (cnF F3 S nf) _ _ (c04.trans (Kl2.same sH5)) (sH5 _ _ hL4) (sH5 _ _ hF4) (by rw [cnF_len, hl3, hnp]; omega) (fun k hk => ?_) (fun k hk q => ?_) et3 (fun q => ?_) (fun q => ?_)
        · rw [cnF_getD (by omega), if_neg (fun z => by have := (hml k).mp ((hS k).mp z); omega)]
          exact hkeep k hk
        · rw [hnp] at hk
          rw [cnF_getD (by omega)]
          show _ ↔ L.length ≤ q ∧ ((fo e k (q - L.length) || (decide (np e ≤ k ∧ np e ≤ q - L.length) && fo f (k - np e) (q - L.length - np e))) || (la e k && (decide (np e ≤ q - L.length) && fs f (q - L.length - np e)))) = true
          rw [Bool.or_eq_true, Bool.or_eq_true, Bool.and_eq_true, Bool.and_eq_true, Bool.and_eq_true, decide_eq_true_iff, decide_eq_true_iff]
          have hla : L.length + k ∈ S ↔ la e k = true := by
            rw [hS, hml, show L.length + k - L.length = k by omega]
            exact ⟨fun h => h.2, fun h => ⟨by omega, h⟩⟩
          have base : (F3.getD (L.length + k) 0).testBit q = true ↔ L.length ≤ q ∧ (fo e k (q - L.length) = true ∨ ((np e ≤ k ∧ np e ≤ q - L.length) ∧ fo f (k - np e) (q - L.length - np e) = true)) := by
            by_cases ck : k < np e
            · rw [hk3 (L.length + k) (by omega), hfo k ck q]
              constructor
              · rintro ⟨h1, h2⟩
                exact ⟨h1, .inl h2⟩
              · rintro ⟨h1, h2 | ⟨h2, _⟩⟩
                · exact ⟨h1, h2⟩
                · omega
            · have := hfo3 (k - np e) (by omega) q
              rw [show L.length + np e + (k - np e) = L.length + k by omega] at this
              rw [this]
              constructor
              · rintro ⟨h1, h2⟩
                exact ⟨by omega, .inr ⟨⟨by omega, by omega⟩, by rw [show q - L.length - np e = q - (L.length + np e) by omega]; exact h2⟩⟩
              · rintro ⟨h1, h2 | ⟨h2, h3⟩⟩
                · have := (Gk.fo_lt h2).1; omega
                · exact ⟨by omega, by rw [show q - (L.length + np e) = q - L.length - np e by omega]; exact h3⟩
          by_cases c : L.length + k ∈ S
          · rw [if_pos c, Nat.testBit_or, Bool.or_eq_true, base, hnf q]
            have c := hla.mp c
            constructor
            · rintro (⟨h1, h2⟩ | ⟨h1, h2⟩)
              · exact ⟨h1, .inl h2⟩
              · exact ⟨by omega, .inr ⟨c, by omega, by rw [show q - L.length - np e = q - (L.length + np e) by omega]; exact h2⟩⟩
            · rintro ⟨h1, h2 | ⟨_, h2, h3⟩⟩
              · exact .inl ⟨h1, h2⟩
              · exact .inr ⟨by omega, by rw [show q - (L.length + np e) = q - L.length - np e by omega]; exact h3⟩
          · rw [if_neg c, base]
            constructor
            · rintro ⟨h1, h2⟩
              exact ⟨h1, .inl h2⟩
            · rintro ⟨h1, h2 | ⟨h2, _⟩⟩
              · exact ⟨h1, h2⟩
              · exact absurd (hla.mpr h2) c
        · show _ ↔ L.length ≤ q ∧ (fs e (q - L.length) || (nul e && (decide (np e ≤ q - L.length) && fs f (q - L.length - np e)))) = true
          by_cases c : nul e = true
          · rw [if_pos c, c, Bool.true_and]
            exact hmf.or hnf q
          · rw [if_neg c, Bool.not_eq_true] at *
            rw [c, Bool.false_and, Bool.or_false]
            exact hmf q
        · show _ ↔ L.length ≤ q ∧ ((decide (np e ≤ q - L.length) && la f (q - L.length - np e)) || (nul f && la e (q - L.length))) = true
          by_cases c : nul f = true
          · rw [if_pos c, c, Bool.true_and, Bool.or_comm]
            exact hml.or hnl q
          · rw [if_neg c]
            rw [Bool.not_eq_true] at c
            rw [c, Bool.false_and, Bool.or_false, hnl q, Bool.and_eq_true, decide_eq_true_iff]
            constructor
            · rintro ⟨h1, h2⟩
              exact ⟨by omega, by omega, by rw [show q - L.length - np e = q - (L.length + np e) by omega]; exact h2⟩
            · rintro ⟨h1, h2, h3⟩
              exact ⟨by omega, by rw [show q - (L.length + np e) = q - L.length - np e by omega]; exact h3⟩
      by_cases ce : nul e = true
      · by_cases cf : nul f = true
        · refine ⟨_, rfl, nul e, rfl, iteB_t ce ?_⟩
          refine ⟨_, rfl, _, rfl, _, _, rfl, rfl, _, rfl, nul f, rfl, iteB_t cf ?_⟩
          refine ⟨_, rfl, _, rfl, _, _, rfl, rfl, _, rfl, nul e, rfl, iteB_t ce ?_⟩
          exact ⟨_, rfl, by show 3 ≤ sizeLine; decide, fun p hp => fin _ _ _ p (by rw [if_pos ce, bor_nat]) (by rw [if_pos cf, bor_nat]) (by rw [ce]; rfl) hp⟩
        · refine ⟨_, rfl, nul e, rfl, iteB_t ce ?_⟩
          refine ⟨_, rfl, _, rfl, _, _, rfl, rfl, _, rfl, nul f, rfl, iteB_f (by simpa using cf) ?_⟩
          refine ⟨_, rfl, _, rfl, nul e, rfl, iteB_t ce ?_⟩
          exact ⟨_, rfl, by show 3 ≤ sizeLine; decide, fun p hp => fin _ _ _ p (by rw [if_pos ce, bor_nat]) (by rw [if_neg cf]) (by rw [ce]; rfl) hp⟩
      · have ce' : nul e = false := by rw [Bool.not_eq_true] at ce; exact ce
        by_cases cf : nul f = true
        · refine ⟨_, rfl, nul e, rfl, iteB_f (by simpa using ce) ?_⟩
          refine ⟨_, rfl, _, rfl, nul f, rfl, iteB_t cf ?_⟩
          refine ⟨_, rfl, _, rfl, _, _, rfl, rfl, _, rfl, nul e, rfl, iteB_f (by simpa using ce) ?_⟩
          exact ⟨by show 3 ≤ sizeLine; decide, fun p hp => fin _ _ _ p (by rw [if_neg ce]) (by rw [if_pos cf, bor_nat]) (by rw [ce']; rfl) hp⟩
        · refine ⟨_, rfl, nul e, rfl, iteB_f (by simpa using ce) ?_⟩
          refine ⟨_, rfl, _, rfl, nul f, rfl, iteB_f (by simpa using cf) ?_⟩
          refine ⟨_, rfl, _, rfl, nul e, rfl, iteB_f (by simpa using ce) ?_⟩
          exact ⟨by show 3 ≤ sizeLine; decide, fun p hp => fin _ _ _ p (by rw [if_neg ce]) (by rw [if_neg cf]) (by rw [ce']; rfl) hp⟩
    | alt e f =>
      obtain ⟨a, v1, v2, rfl, ha, hv, hw⟩ := he
      obtain ⟨n', rfl⟩ : ∃ n', n = n' + 1 := by
        cases n with
        | zero => exact absurd hd (by show ¬ max (dep e) (dep f) + 1 ≤ 0; omega)
        | succ n' => exact ⟨n', rfl⟩
      have hd : max (dep e) (dep f) + 1 ≤ n' + 1 := hd
      have hnp : np (.alt e f) = np e + np f := Gk.np_alt e f
      rw [hnp] at hb
      refine ⟨_, rfl, a, _, _, _, rfl, rfl, ha, rfl, ?_⟩
      refine ⟨_, rfl, rfl, _, rfl, iteF ?_⟩
      refine ⟨_, rfl, by show 2 ≤ sizeLine; decide, fun t1 nt1 => ?_⟩
      generalize hX : upd H t1 _ = H1; obtain ⟨sH1, et1⟩ := nw nt1 hX; clear hX
      refine ⟨t1, _, rfl, .inr (.of et1), rfl, rfl, _, rfl, ?_⟩
      refine iteB_f (by rfl) ?_
      refine ⟨_, rfl, x, dx, fs', rfl, sH1 _ _ hx, k3, _, rfl, a, _, _, _, rfl, rfl, sqt_tk (TK.of sH1) ha, rfl, x, dx, lp, fp, fs', v1, e, L, F, rfl, sH1 _ _ hx, k1, k2, k3, k4, sH1 _ _ hL, sH1 _ _ hF, nlf, hFL, by omega, hv.same sH1, by omega, fun H2 t F2 mf ml c2 hL2 hF2 hl2 hk2 hfo et hmf hml => ?_⟩
      refine ⟨t, _, rfl, .of et, rfl, _, _, rfl, _, _, rfl, _, _, rfl, rfl, ?_⟩
      have c02 := (Kl2.same sH1).trans c2
      have hx2 := c02 _ _ nxl nxf hx
      have tk2 := Kl2.tk c02 hL hF
      refine ⟨_, rfl, rfl, _, rfl, iteF ?_⟩
      have hLl : (L ++ Gk.lt e).length = L.length + np e := List.length_append
      refine ⟨_, rfl, x, dx, fs', rfl, hx2, k3, _, rfl, a, _, _, _, rfl, rfl, sqt_tk tk2 ha, rfl, x, dx, lp, fp, fs', v2, f, L ++ Gk.lt e, F2, rfl, hx2, k1, k2, k3, k4, hL2, hF2, nlf, by rw [hLl]; exact hl2, by rw [hLl]; omega, hw.tk tk2, by omega, fun H3 u F3 nf nl c3 hL3 hF3 hl3 hk3 hfo3 eu hnf hnl => ?_⟩
      rw [hLl] at hl3 hk3 hfo3 hnf hnl
      rw [List.append_assoc] at hL3
      refine ⟨u, _, rfl, .of eu, rfl, _, _, rfl, _, _, rfl, _, _, rfl, rfl, ?_⟩
      have c03 := c02.trans c3
      have hx3 := c03 _ _ nxl nxf hx
      have hkeep : ∀ p, p < L.length → F3.getD p 0 = F.getD p 0 := fun p hp => by rw [hk3 p (by omega), hk2 p hp]
      refine ⟨_, rfl, rfl, _, rfl, iteT ?_⟩
      have fin : ∀ (r : Bool) (t3 : Addr), r = (nul e || nul f) → H3 t3 = none → Q (.ref t3) (upd H3 t3 (.tup [.int (Builtin.bitOr (mf : Int) (nf : Int)), .int (Builtin.bitOr (ml : Int) (nl : Int)), .bl r])) := fun r t3 hr nt3 => by
        rw [bor_nat, bor_nat, hr]
        generalize hX : upd H3 t3 _ = H4; obtain ⟨sH4, et3⟩ := nw nt3 hX; clear hX
        refine q H4 t3 F3 (mf ||| nf) (ml ||| nl) (c03.trans (Kl2.same sH4)) (sH4 _ _ hL3) (sH4 _ _ hF3) (by rw [hl3, hnp]; omega) hkeep (fun k hk q => ?_) et3 (hmf.or hnf) (hml.or hnl)
        rw [hnp] at hk
        show _ ↔ L.length ≤ q ∧ (fo e k (q - L.length) || (decide (np e ≤ k ∧ np e ≤ q - L.length) && fo f (k - np e) (q - L.length - np e))) = true
        rw [Bool.or_eq_true, Bool.and_eq_true, decide_eq_true_iff]
        by_cases ck : k < np e
        · rw [hk3 (L.length + k) (by omega), hfo k ck q]
          constructor
          · rintro ⟨h1, h2⟩
            exact ⟨h1, .inl h2⟩
          · rintro ⟨h1, h2 | ⟨h2, _⟩⟩
            · exact ⟨h1, h2⟩
            · omega
        · have := hfo3 (k - np e) (by omega) q
          rw [show L.length + np e + (k - np e) = L.length + k by omega] at this
          rw [this]
          constructor
          · rintro ⟨h1, h2⟩
            exact ⟨by omega, .inr ⟨⟨by omega, by omega⟩, by rw [show q - L.length - np e = q - (L.length + np e) by omega]; exact h2⟩⟩
          · rintro ⟨h1, h2 | ⟨h2, h3⟩⟩
            · have := (Gk.fo_lt h2).1; omega
            · exact ⟨by omega, by rw [show q - (L.length + np e) = q - L.length - np e by omega]; exact h3⟩
      refine ⟨_, rfl, _, rfl, _, _, rfl, rfl, _, rfl, _, rfl, _, _, rfl, rfl, _, rfl, nul e, rfl, ?_⟩
      by_cases hn : nul e = true
      · rw [if_pos hn]
        exact ⟨by show 3 ≤ sizeLine; decide, fun p hp => fin _ p (by rw [hn]; rfl) hp⟩
      · rw [if_neg hn]
        exact ⟨_, rfl, by show 3 ≤ sizeLine; decide, fun p hp => fin _ p (by rw [Bool.not_eq_true] at hn; rw [hn]; rfl) hp⟩
open Gk (Ex Lg nul np fs la fo)
theorem ok_add {C fA fC : Addr} {fdA fdQ : FuncData} (T : Txt K mg) (PP : PosC K C) (MA : Meth K C "add_part" fA) (bA : Binds K fdA ["self", "expression"] []) (MC : Meth K C "connect" fC) (F2 : L2.Fun K "connect" "Positions.connect" s_Positions_connect fC fdQ) (bC : Binds K fdQ ["self", "before", "behind"] [])
    (F : L2.Fun K "add_part" "Positions.add_part" s_Positions_add_part fA fdA) : ∀ n, FnOk P w K mg base CX0 (2 + n) fA fdA ["self", "expression"] (spAdd K C n)
  | 0 => ⟨fun vs H Q E h => h.elim, fun A outer s H args us vs Q E _ _ _ _ h => h.elim⟩
  | n + 1 => ok_add_step T PP MA bA MC F2 bC F (ok_add T PP MA bA MC F2 bC F n)
def pfl (lp fp : Addr) (mf ml : Nat) (nu : Bool) : List (Str × V) := [("letters", .ref lp), ("follows", .ref fp), ("first", .int (mf : Nat)), ("last", .int (ml : Nat)), ("nullable", .bl nu)]
/-- the places of e at x -/
structure PosAt (C : Addr) (H : Hp) (x : Addr) (e : Ex) (dx lp fp : Addr) (F : List Nat) (mf ml : Nat) : Prop where
  at_ : H x = some (.ins C dx (pfl lp fp mf ml (nul e)))
  el : H lp = some (.lst ((Gk.lt e).map V.int))
  ef : H fp = some (.lst (F.map VN))
  len : F.length = np e
  fo : Fo 0 F e
  mf : Mo 0 mf (fs e)
  ml : Mo 0 ml (la e)
theorem PosAt.same {C : Addr} {H H' : Hp} {x : Addr} {e : Ex} {dx lp fp : Addr} {F : List Nat} {mf ml : Nat} (s : Same H H') (h : PosAt C H x e dx lp fp F mf ml) : PosAt C H' x e dx lp fp F mf ml := ⟨s _ _ h.at_, s _ _ h.el, s _ _ h.ef, h.len, h.fo, h.mf, h.ml⟩
def spIniP (K : PySem.W.Frag) (C : Addr) (d : Nat) : Sp := fun vs H Q _ => ∃ (x dx : Addr) (v : V) (e : Ex), vs = [.ref x, v] ∧ H x = some (.ins C dx []) ∧ ExAt K H v e ∧ np e ≤ 100 ∧ dep e ≤ d ∧
  ∀ (H' : Hp) (lp fp : Addr) (F : List Nat) (mf ml : Nat), Kp x H H' → PosAt C H' x e dx lp fp F mf ml → Q .non H'
theorem ok_iniP {C fI fA fC : Addr} {fdI fdA fdQ : FuncData} (d : Nat) (T : Txt K mg) (PP : PosC K C) (FI : L2.Fun K "__init__" "Positions.__init__" s_Positions_init fI fdI) (MA : Meth K C "add_part" fA) (bA : Binds K fdA ["self", "expression"] []) (MC : Meth K C "connect" fC) (F2 : L2.Fun K "connect" "Positions.connect" s_Positions_connect fC fdQ) (bC : Binds K fdQ ["self", "before", "behind"] [])
    (F : L2.Fun K "add_part" "Positions.add_part" s_Positions_add_part fA fdA) : FnOk P w K mg base CX0 (2 + (d + 1) + 1) fI fdI ["self", "expression"] (spIniP K C d) := by
  have FA : FnOk P w K mg base CX0 (2 + (d + 1)) fA fdA ["self", "expression"] (spAdd K C (d + 1)) := ok_add T PP MA bA MC F2 bC F (d + 1)
  refine FI.ok sc_Positions_init (fun vs H Q E h => ?_) (fun cdv A outer s H vs Q E hr h => ?_)
  · obtain ⟨x, dx, v, e, rfl, _⟩ := h
    rfl
  · obtain ⟨x, dx, v, e, rfl, hx, he, hn, hd, q⟩ := h
    refine ⟨_, (pss_cons
      (ps_fld (pv 0) (pe_lst pa_nil) rfl)
      (pss_cons
      (ps_fld (pv 0) (pe_lst pa_nil) rfl)
      (pss_one
      (ps_asg (pe_meth (pv 0) PP.cl MA FA (hr.mono (by omega)) bA .nil pass0 (pa_cons (pv 1) pa_nil)) (pg_tup (by rfl) (pgs_cons (pg_fld (pv 0)) (pgs_cons (pg_fld (pv 0)) (pgs_cons (pg_fld (pv 0)) pgs_nil)))))))), ?_⟩
    refine ⟨Nat.zero_le _, fun lp nlp => ?_⟩
    generalize hX : upd H lp _ = H1; obtain ⟨sH1, elp⟩ := nw nlp hX; clear hX
    have nxl : x ≠ lp := fun z => by rw [z] at hx; rw [hx] at nlp; cases nlp
    refine ⟨_, rfl, x, C, dx, _, rfl, sH1 _ _ hx, PP.cl, PP.nl, by decide, ?_⟩
    have k2 : Kp x H (upd H1 x (.ins C dx (putF "letters" (.ref lp) []))) := (Same.kp sH1).trans Kp.own
    have x2 : (upd H1 x (.ins C dx (putF "letters" (.ref lp) []))) x = some (.ins C dx [("letters", .ref lp)]) := upd_same
    have l2 : (upd H1 x (.ins C dx (putF "letters" (.ref lp) []))) lp = some (.lst []) := by rw [upd_ne nxl.symm]; exact elp
    have tk2 : TK H (upd H1 x (.ins C dx (putF "letters" (.ref lp) []))) := TK.kp k2 hx (by intro _ z; cases z) (by intro _ _ z; cases z)
    generalize upd H1 x (.ins C dx (putF "letters" (.ref lp) [])) = H2 at k2 x2 l2 tk2 ⊢
    refine ⟨Nat.zero_le _, fun fp nfp => ?_⟩
    generalize hX : upd H2 fp _ = H3; obtain ⟨sH3, efp⟩ := nw nfp hX; clear hX
    have nxf : x ≠ fp := fun z => by rw [← z, x2] at nfp; cases nfp
    have nlf : lp ≠ fp := fun z => by rw [← z, l2] at nfp; cases nfp
    refine ⟨_, rfl, x, C, dx, _, rfl, sH3 _ _ x2, PP.cl, PP.nf, by show 1 < 1000; decide, ?_⟩
    have k4 : Kp x H (upd H3 x (.ins C dx (putF "follows" (.ref fp) [("letters", .ref lp)]))) := (k2.trans (Same.kp sH3)).trans Kp.own
    have x4 : (upd H3 x (.ins C dx (putF "follows" (.ref fp) [("letters", .ref lp)]))) x = some (.ins C dx [("letters", .ref lp), ("follows", .ref fp)]) := upd_same
    have l4 : (upd H3 x (.ins C dx (putF "follows" (.ref fp) [("letters", .ref lp)]))) lp = some (.lst []) := by rw [upd_ne nxl.symm]; exact sH3 _ _ l2
    have f4 : (upd H3 x (.ins C dx (putF "follows" (.ref fp) [("letters", .ref lp)]))) fp = some (.lst []) := by rw [upd_ne nxf.symm]; exact efp
    have tk4 : TK H (upd H3 x (.ins C dx (putF "follows" (.ref fp) [("letters", .ref lp)]))) := TK.kp k4 hx (by intro _ z; cases z) (by intro _ _ z; cases z)
    generalize upd H3 x (.ins C dx (putF "follows" (.ref fp) [("letters", .ref lp)])) = H4 at k4 x4 l4 f4 tk4 ⊢
    refine ⟨_, rfl, x, dx, _, rfl, x4, rfl, _, rfl, x, dx, lp, fp, _, v, e, [], [], rfl, x4, rfl, rfl, rfl, rfl, l4, f4, nlf, rfl, by show 0 + np e ≤ 100; omega, he.tk tk4, hd, fun H5 t F mf ml c5 hL5 hF5 hl5 _ hfo et hmf hml => ?_⟩
    have x5 := c5 _ _ nxl nxf x4
    refine ⟨t, _, rfl, .of et, rfl, _, _, rfl, _, rfl, x, C, dx, _, rfl, x5, PP.cl, PP.n1, by show 2 < 1000; decide, ?_⟩
    refine ⟨_, _, rfl, _, rfl, x, C, dx, _, rfl, upd_same, PP.cl, PP.n2, by show 3 < 1000; decide, ?_⟩
    refine ⟨_, _, rfl, _, rfl, x, C, dx, _, rfl, upd_same, PP.cl, PP.n3, by show 4 < 1000; decide, rfl, ?_⟩
    rw [upd_upd, upd_upd]
    refine q _ lp fp F mf ml (Kp.trans (show Kp x H H5 from ?_) Kp.own) ⟨upd_same, ?_, ?_, ?_, ?_, ?_, ?_⟩
    · intro b o nb hb
      refine c5 b o (fun z => ?_) (fun z => ?_) (k4 b o nb hb)
      · rw [z, nlp] at hb; cases hb
      · have := k2 b o nb hb
        rw [z, nfp] at this
        cases this
    · rw [upd_ne nxl.symm]; exact hL5
    · rw [upd_ne nxf.symm]; exact hF5
    · rw [hl5]; show 0 + np e = np e; omega
    · exact hfo
    · exact hmf
    · exact hml
/-! a fresh instance -/
theorem same_made {C x dx : Addr} {H1 H2 : Hp} (hx : H1 x = none) (hd : H1 dx = none) (k : Kp x (upd (upd H1 dx (.own x)) x (.ins C dx [])) H2) : Same H1 H2 := fun b o hb => by
  have n1 : b ≠ x := fun z => by rw [z, hx] at hb; cases hb
  have n2 : b ≠ dx := fun z => by rw [z, hd] at hb; cases hb
  refine k _ _ n1 ?_
  rw [upd_ne n1, upd_ne n2]
  exact hb
theorem same_fresh {C x dx : Addr} {H1 : Hp} (hx : H1 x = none) (hd : H1 dx = none) : Same H1 (upd (upd H1 dx (.own x)) x (.ins C dx [])) := same_made hx hd (Kp.refl _ _)
open Gk (Ex Lg nul np fs la fo Wy Ac)
theorem noPart (σ : L2.St) (H : Hp) (Q : Option Int → Hp → Prop) : tNoPart σ H Q = Q none H := rfl
theorem wy_last {e : Ex} {p q : Nat} {u : List Int} {a : Int} (h : Wy e p (u ++ [a]) q) : ∃ q', Wy e p u q' ∧ fo e q' q = true ∧ (Gk.lt e)[q]? = some a := by
  induction u generalizing p with
  | nil =>
    cases h with
    | cons x y z => cases z; exact ⟨p, .nil p, x, y⟩
  | cons b u ih =>
    cases h with
    | cons x y z =>
      obtain ⟨q', h1, h2, h3⟩ := ih z
      exact ⟨q', .cons x y h1, h2, h3⟩
/-- where a word that began with a can be, behind u -/
def RS (e : Ex) (a : Int) (u : List Int) (q : Nat) : Prop := ∃ p, fs e p = true ∧ (Gk.lt e)[p]? = some a ∧ Wy e p u q
theorem wy_lt {e : Ex} {p q : Nat} {u : List Int} (h : Wy e p u q) : p < np e → q < np e := by
  induction h with
  | nil p => exact id
  | cons x y _ ih => exact fun _ => ih (Gk.fo_lt x).2
theorem RS.lt {e : Ex} {a : Int} {u : List Int} {q : Nat} (h : RS e a u q) : q < np e := by
  obtain ⟨p, h1, _, h3⟩ := h
  exact wy_lt h3 (Gk.fs_lt h1)
theorem RS.snoc {e : Ex} {a b : Int} {u : List Int} {q : Nat} : RS e a (u ++ [b]) q ↔ (∃ p, RS e a u p ∧ fo e p q = true) ∧ (Gk.lt e)[q]? = some b := by
  constructor
  · rintro ⟨p, h1, h2, h3⟩
    obtain ⟨q', k1, k2, k3⟩ := wy_last h3
    exact ⟨⟨q', ⟨p, h1, h2, k1⟩, k2⟩, k3⟩
  · rintro ⟨⟨p', ⟨p, h1, h2, h3⟩, k2⟩, k3⟩
    exact ⟨p, h1, h2, h3.snoc k2 k3⟩
def spMat (K : PySem.W.Frag) (d : Nat) : Sp := fun vs H Q _ => ∃ (v : V) (wp : Addr) (e : Ex) (ws : List Int), vs = [v, .ref wp] ∧ ExAt K H v e ∧ np e ≤ 100 ∧ dep e ≤ d ∧ H wp = some (.lst (ws.map V.int)) ∧ ws.length ≤ 1000 ∧
  ∀ (H' : Hp) (b : Bool), Same H H' → (b = true ↔ Lg e ws) → Q (.bl b) H'
theorem cal_mat {C fI fA fC fL : Addr} {fdI fdA fdQ fdL : FuncData} (T : Txt K mg) (PP : PosC K C) (MP : Mk K C fI) (gP : mg "Positions" = some (.ref C)) (FI : L2.Fun K "__init__" "Positions.__init__" s_Positions_init fI fdI) (bP : Binds K fdI ["self", "expression"] [])
    (MA : Meth K C "add_part" fA) (F3 : L2.Fun K "add_part" "Positions.add_part" s_Positions_add_part fA fdA) (bA : Binds K fdA ["self", "expression"] []) (MC : Meth K C "connect" fC) (F2 : L2.Fun K "connect" "Positions.connect" s_Positions_connect fC fdQ) (bC : Binds K fdQ ["self", "before", "behind"] [])
    (ML : Meth K C "at_letter" fL) (F4 : L2.Fun K "at_letter" "Positions.at_letter" s_Positions_at_letter fL fdL) (bL : Binds K fdL ["self", "mask", "letter"] []) : C8.Cal P w K mg base 9 "matches" (spMat K 3) [] := by
  have FP : FnOk P w K mg base CX0 7 fI fdI ["self", "expression"] (spIniP K C 3) := ok_iniP 3 T PP FI MA bA MC F2 bC F3
  have FL : FnOk P w K mg base CX0 2 fL fdL ["self", "mask", "letter"] (spAtl C) := ok_atl T PP F4
  have C_numbers_of : C8.Cal P w K mg base 1 "numbers_of" spNum [] := cal_num T
  obtain ⟨f, fd, F, hm, hb⟩ := T.h_matches
  refine ⟨f, fd, _, [], F.ok sc_matches (fun vs H Q E h => ?_) (fun cdv A outer s H vs Q E hr h => ?_), hm, F.kp, hb, .nil⟩
  · obtain ⟨v, wp, e, ws, rfl, _⟩ := h
    rfl
  · obtain ⟨v, wp, e, ws, rfl, he, hn, hd, hw, hwl, q⟩ := h
    refine ⟨_, (pss_cons
      (ps_set (i := 2) sc_matches.nd rfl (Or.inl rfl) (pe_make MP FP (hr.mono (by decide)) (by rfl) gP bP .nil pass0 (pa_cons (pv 0) pa_nil)))
      (pss_cons
      (ps_if (pt_cmpR op_eq (pe_callB (call_lenK (K := K) rfl) (by rfl) T.z_len PySem.boot_len (pa_cons (pv 1) pa_nil)) pe_int (nomark _)) (pss_one
      (ps_ret (pe_fld (pv 2) rfl))) pss_nil)
      (pss_cons
      (ps_set (i := 3) sc_matches.nd rfl (Or.inl rfl) (pe_meth (pv 2) PP.cl ML FL (hr.mono (by omega)) bL .nil pass0 (pa_cons (pe_fld (pv 2) rfl) (pa_cons (pe_ix (ix_listK (K := K) rfl) (pv 1) pe_int (fun _ _ => rfl)) pa_nil))))
      (pss_cons
      (ps_for PassesOwn.never rfl (pi_list (pe_slice (sl_listK (K := K) rfl) (pv 1) (po_some pe_int) po_none)) (pg_name (i := 4) sc_matches.nd rfl (.inl rfl)) (pss_cons
      (ps_set (i := 5) sc_matches.nd rfl (Or.inl rfl) pe_int)
      (pss_cons
      (ps_for PassesOwn.never rfl (pi_list (C8.pe_c C_numbers_of hr (by decide) (by rfl) (pa_cons (pv 3) pa_nil))) (pg_name (i := 6) sc_matches.nd rfl (.inl rfl)) (pss_one
      (ps_set (i := 5) sc_matches.nd rfl (Or.inl rfl) (pe_op op_or (pv 5) (pe_ix (ix_listK (K := K) rfl) (pe_fld (pv 2) rfl) (pv 6) (fun _ _ => rfl))))))
      (pss_one
      (ps_set (i := 3) sc_matches.nd rfl (Or.inl rfl) (pe_meth (pv 2) PP.cl ML FL (hr.mono (by omega)) bL .nil pass0 (pa_cons (pv 5) (pa_cons (pv 4) pa_nil))))))))
      (pss_one
      (ps_ret (pe_cmpR op_ne (pe_op op_and (pv 3) (pe_fld (pv 2) rfl)) pe_int (nomark _)))))))), ?_⟩
    refine ⟨_, rfl, fun x dx hx hdx hne => ?_⟩
    have s1 := same_fresh (C := C) hx hdx
    refine ⟨x, dx, v, e, rfl, upd_same, he.same s1, hn, hd, fun H1 lp fp F mf ml k1 hP => ⟨rfl, ?_⟩⟩
    have s01 : Same H H1 := same_made hx hdx k1
    clear s1 k1 hne
    have hx1 := hP.at_
    have hw1 := s01 _ _ hw
    refine ⟨_, rfl, wp, _, rfl, .inl (.of hw1), rfl, _, rfl, ite_eq (fun c => ?_) (fun c => ?_)⟩
    · have : ws = [] := List.length_eq_zero_iff.mp (by rw [List.length_map] at c; omega)
      subst this
      refine ⟨_, rfl, x, C, dx, _, _, rfl, hx1, PP.cl, PP.n3, rfl, q H1 (nul e) s01 ?_⟩
      exact ⟨Gk.of_nul, fun h => Gk.nul_of h rfl⟩
    obtain ⟨a, u, rfl⟩ : ∃ a u, ws = a :: u := by
      cases ws with
      | nil => exact absurd rfl c
      | cons a u => exact ⟨a, u, rfl⟩
    clear c
    have hnl : (Gk.lt e).length ≤ 100 := hn
    refine ⟨_, rfl, x, dx, _, rfl, hx1, rfl, _, rfl, x, C, dx, _, _, rfl, hx1, PP.cl, PP.n1, rfl, _, rfl, wp, _, _, .int a, rfl, rfl, .of hw1, (show atI (V.int a :: u.map V.int) ((0 : Nat) : Int) = _ from atI_nat rfl), x, dx, lp, _, mf, a, Gk.lt e, rfl, hx1, rfl, hP.el, hnl, fun i hi => Gk.fs_lt ((hP.mf i).mp hi).2, fun H2 r s2 hr0 => ?_⟩
    have hr : ∀ q, r.testBit q = true ↔ RS e a [] q := fun q => by
      rw [hr0 q, hP.mf q]
      constructor
      · rintro ⟨⟨_, h1⟩, h2⟩
        exact ⟨q, h1, h2, .nil q⟩
      · rintro ⟨p, h1, h2, h3⟩
        cases h3
        exact ⟨⟨Nat.zero_le _, h1⟩, h2⟩
    clear hr0
    have s02 := s01.trans s2
    have hP2 := hP.same s2
    have hw2 := s2 _ _ hw1
    refine ⟨_, rfl, 1, rfl, ?_⟩
    show tNoPart _ _ _
    rw [noPart]
    refine sll_from (n := 1) hw2 rfl (by simp) fun sl nsl => ?_
    generalize hX : upd H2 sl _ = H3; obtain ⟨sH3, esl⟩ := nw nsl hX; clear hX
    have hP3 := hP2.same sH3
    have s03 := s02.trans sH3
    rw [show (a :: u).drop 1 = u from rfl] at esl
    have hul : u.length ≤ 1000 := by simp at hwl; omega
    refine ⟨sl, rfl, ⟨_, .of esl⟩, for_list (K := K) (a := sl) (xs := u.map V.int) (fun i σ H' => ∃ (v4 v5 v6 : Option V) (r : Nat), σ = [some v, some (.ref wp), some (.ref x), some (.int (r : Nat)), v4, v5, v6] ∧ Same H3 H' ∧ ∀ q, r.testBit q = true ↔ RS e a (u.take i) q)
      ⟨none, none, none, r, rfl, Same.refl _, hr⟩ (fun i σ H' _ ⟨_, _, _, _, _, z, _⟩ => .of (z _ _ esl)) ?_ ?_⟩
    · clear hr
      rintro i y σ H4 hi ⟨v4, v5, v6, r, rfl, s4, hr⟩
      obtain ⟨b, hb, rfl⟩ := mapg hi
      have hP4 := hP3.same s4
      have hrl : ∀ q, r.testBit q = true → q < np e := fun q hq => ((hr q).mp hq).lt
      refine ⟨_, rfl, r, rfl, ?_, fun H5 N ns s5 nN eN hpw hmem hnl2 => ?_⟩
      · exact Nat.lt_of_lt_of_le (Mk.lt_of_bits hrl) (Nat.pow_le_pow_right (by decide) (by omega))
      have hP5 := hP4.same s5
      refine ⟨N, rfl, ⟨_, .of eN⟩, for_list (K := K) (a := N) (xs := ns.map VN) (fun k σ H' => ∃ (v6 : Option V) (g : Nat), σ = [some v, some (.ref wp), some (.ref x), some (.int (r : Nat)), some (.int b), some (.int (g : Nat)), v6] ∧ H' = H5 ∧ ∀ q, g.testBit q = true ↔ ∃ p ∈ ns.take k, fo e p q = true)
        ⟨_, 0, rfl, rfl, fun q => by rw [Nat.zero_testBit]; simp⟩ (fun i σ H' _ ⟨_, _, _, z, _⟩ => by rw [z]; exact .of eN) ?_ ?_⟩
      · rintro k z σ H6 hk ⟨v6, g, rfl, rfl, hg⟩
        obtain ⟨p, hp, rfl⟩ := nats_get hk
        have hpl := hrl p ((hmem p).mp (List.mem_of_getElem? hp))
        refine ⟨_, rfl, _, rfl, x, C, dx, _, _, rfl, hP5.at_, PP.cl, PP.nf, rfl, _, rfl, fp, _, _, VN (F.getD p 0), rfl, rfl, .of hP5.ef, atN ?_, _, _, rfl, rfl, ?_⟩
        · rw [List.getD_eq_getElem?_getD, List.getElem?_eq_getElem (by rw [hP5.len]; exact hpl)]; rfl
        refine ⟨some (VN p), g ||| F.getD p 0, ?_, rfl, fun q => ?_⟩
        · show [some v, some (V.ref wp), some (V.ref x), some (V.int (r : Nat)), some (V.int b), some (V.int (Builtin.bitOr (g : Int) ((F.getD p 0 : Nat) : Int))), some (VN p)] = _
          rw [bor_nat]
        · have hfo := hP5.fo p hpl q
          rw [Nat.zero_add, Nat.sub_zero] at hfo
          rw [Nat.testBit_or, Bool.or_eq_true, hg q, hfo, List.take_add_one, hp]
          constructor
          · rintro (⟨p', h1, h2⟩ | ⟨_, h2⟩)
            · exact ⟨p', List.mem_append_left _ h1, h2⟩
            · exact ⟨p, List.mem_append_right _ (by simp), h2⟩
          · rintro ⟨p', h1, h2⟩
            rcases List.mem_append.mp h1 with h1 | h1
            · exact .inl ⟨p', h1, h2⟩
            · have : p' = p := by simpa using h1
              rw [this] at h2
              exact .inr ⟨Nat.zero_le _, h2⟩
      · rintro σ H6 ⟨v6, g, rfl, rfl, hg⟩
        rw [List.length_map, List.take_length] at hg
        refine ⟨_, rfl, x, dx, _, rfl, hP5.at_, rfl, _, rfl, _, rfl, x, dx, lp, _, g, b, Gk.lt e, rfl, hP5.at_, rfl, hP5.el, hnl, fun i hi => ?_, fun H7 r' s7 hr' => ?_⟩
        · obtain ⟨p, _, h⟩ := (hg i).mp hi
          exact (Gk.fo_lt h).2
        · refine ⟨_, _, _, r', rfl, (s4.trans s5).trans s7, fun q => ?_⟩
          rw [hr' q, hg q, show u.take (i + 1) = u.take i ++ [b] by rw [List.take_add_one, hb]; rfl, RS.snoc]
          constructor
          · rintro ⟨⟨p, h1, h2⟩, h3⟩
            exact ⟨⟨p, (hr p).mp ((hmem p).mp h1), h2⟩, h3⟩
          · rintro ⟨⟨p, h1, h2⟩, h3⟩
            exact ⟨⟨p, (hmem p).mpr ((hr p).mpr h1), h2⟩, h3⟩
    · rintro σ H4 ⟨v4, v5, v6, r, rfl, s4, hr⟩
      rw [List.length_map, List.take_length] at hr
      have hP4 := hP3.same s4
      refine ⟨_, rfl, _, rfl, x, C, dx, _, _, rfl, hP4.at_, PP.cl, PP.n2, rfl, _, _, rfl, rfl, rfl, ?_⟩
      show Q (.bl (!decide (V.int (Builtin.bitAnd (r : Int) (ml : Int)) = V.int 0))) H4
      refine q H4 _ (s03.trans s4) ?_
      rw [band_nat, Bool.not_eq_true', decide_eq_false_iff_not, Gk.lg_iff]
      constructor
      · intro h
        refine .inr (Classical.byContradiction fun hno => h ?_)
        have : r &&& ml = 0 := Mk.zero_of fun i => by
          cases e1 : (r &&& ml).testBit i with
          | false => rfl
          | true =>
            rw [Nat.testBit_and, Bool.and_eq_true, hr i, hP4.ml i] at e1
            obtain ⟨⟨p, h1, h2, h3⟩, _, h4⟩ := e1
            exact absurd ⟨a, u, p, i, rfl, h1, h2, h3, h4⟩ hno
        rw [this]
        rfl
      · rintro (⟨h, _⟩ | ⟨a', u', p, qq, e1, h1, h2, h3, h4⟩) hz
        · cases h
        · obtain ⟨rfl, rfl⟩ := List.cons.inj e1
          have hz : r &&& ml = 0 := by have := V.int.inj hz; omega
          have : (r &&& ml).testBit qq = true := by
            rw [Nat.testBit_and, Bool.and_eq_true, hr qq, hP4.ml qq]
            exact ⟨⟨p, h1, h2, h3⟩, Nat.zero_le _, h4⟩
          rw [hz, Nat.zero_testBit] at this
          cases this
open Gk (Ex Lg nul np fs la fo St Tc Up)
abbrev Mx := List (List Bool)
def gt (M : Mx) (j k : Nat) : Bool := (M.getD j []).getD k false
structure Sq (n : Nat) (M : Mx) : Prop where
  len : M.length = n
  row : ∀ r ∈ M, r.length = n
def tab (n : Nat) (f : Nat → Nat → Bool) : Mx := (List.range n).map fun j => (List.range n).map fun k => f j k
theorem tab_sq (n : Nat) (f : Nat → Nat → Bool) : Sq n (tab n f) := ⟨by unfold tab; rw [List.length_map, List.length_range], fun r hr => by
  obtain ⟨j, _, rfl⟩ := List.mem_map.mp hr
  rw [List.length_map, List.length_range]⟩
theorem gt_tab {n j k : Nat} {f : Nat → Nat → Bool} (hj : j < n) (hk : k < n) : gt (tab n f) j k = f j k := by
  unfold gt tab
  rw [List.getD_eq_getElem?_getD, List.getD_eq_getElem?_getD, List.getElem?_map, List.getElem?_range hj]
  show (((List.range n).map fun k => f j k)[k]?).getD false = _
  rw [List.getElem?_map, List.getElem?_range hk]
  rfl
def jn (n : Nat) (A B : Mx) : Mx := tab n fun j k => gt A j k || gt B j k
def cm (n : Nat) (A B : Mx) : Mx := tab n fun j k => (List.range n).any fun i => gt A j i && gt B i k
def cl (n : Nat) (A : Mx) : Nat → Mx
  | 0 => A
  | t + 1 => jn n (cl n A t) (cm n (cl n A t) A)
theorem cl_sq {n : Nat} {A : Mx} (h : Sq n A) : ∀ t, Sq n (cl n A t)
  | 0 => h
  | t + 1 => tab_sq n _
def sm (ls : List Int) (back : Nat) : Ex → Mx
  | .none => tab ls.length fun _ _ => false
  | .empty => tab ls.length fun _ _ => false
  | .let_ a => tab ls.length fun k j => decide (j = Gk.af ls.length back k) && decide (ls.getD k 0 = a)
  | .star e => cl ls.length (sm ls back e) ls.length
  | .alt e f => jn ls.length (sm ls back e) (sm ls back f)
  | .join e f =>
    let c := cm ls.length (sm ls back e) (sm ls back f)
    let c1 := if nul e = true then jn ls.length c (sm ls back f) else c
    if nul f = true then jn ls.length c1 (sm ls back e) else c1
theorem sm_sq {ls : List Int} {back : Nat} : ∀ e, Sq ls.length (sm ls back e)
  | .none => tab_sq _ _
  | .empty => tab_sq _ _
  | .let_ a => tab_sq _ _
  | .star e => cl_sq (sm_sq e) _
  | .alt e f => tab_sq _ _
  | .join e f => by
    show Sq _ (if nul f = true then _ else if nul e = true then _ else _)
    split
    · exact tab_sq _ _
    · split <;> exact tab_sq _ _
theorem cl_up {n : Nat} {A : Mx} {R : Nat → Nat → Prop} (hR : ∀ a b, R a b → a < n ∧ b < n) (h : ∀ j k, j < n → k < n → (gt A j k = true ↔ R j k)) : ∀ t j k, j < n → k < n → (gt (cl n A t) j k = true ↔ Up R t j k)
  | 0, j, k, hj, hk => h j k hj hk
  | t + 1, j, k, hj, hk => by
    show gt (tab n _) j k = true ↔ _
    rw [gt_tab hj hk, Bool.or_eq_true, cl_up hR h t j k hj hk]
    show Up R t j k ∨ gt (tab n _) j k = true ↔ Up R t j k ∨ ∃ i, Up R t j i ∧ R i k
    rw [gt_tab hj hk, List.any_eq_true]
    constructor
    · rintro (z | ⟨i, hi, z⟩)
      · exact .inl z
      · have hi := List.mem_range.mp hi
        rw [Bool.and_eq_true, cl_up hR h t j i hj hi, h i k hi hk] at z
        exact .inr ⟨i, z⟩
    · rintro (z | ⟨i, z1, z2⟩)
      · exact .inl z
      · have hi := (hR i k z2).1
        exact .inr ⟨i, List.mem_range.mpr hi, by rw [Bool.and_eq_true, cl_up hR h t j i hj hi, h i k hi hk]; exact ⟨z1, z2⟩⟩
theorem st_lt {ls : List Int} {back : Nat} {e : Ex} {j k : Nat} (hb : back < ls.length) (hj : j < ls.length) (h : St ls back e j k) : k < ls.length := by
  obtain ⟨m, _, rfl, _⟩ := h
  exact Gk.pl_lt hb m j hj
theorem tc_congr {R S : Nat → Nat → Prop} {n : Nat} (hS : ∀ a b, a < n → R a b → S a b) (hl : ∀ a b, a < n → R a b → b < n) {j k : Nat} (h : Tc R j k) : j < n → Tc S j k := by
  induction h with
  | one h => exact fun hj => .one (hS _ _ hj h)
  | more h _ ih => exact fun hj => .more (hS _ _ hj h) (ih (hl _ _ hj h))
theorem sm_st {ls : List Int} {back : Nat} (hb : back < ls.length) : ∀ (e : Ex) (j k : Nat), j < ls.length → k < ls.length → (gt (sm ls back e) j k = true ↔ St ls back e j k)
  | .none, j, k, hj, hk => by
    show gt (tab _ _) j k = true ↔ _
    rw [gt_tab hj hk]
    exact ⟨fun h => (by cases h), fun h => absurd h (Gk.st_none j k)⟩
  | .empty, j, k, hj, hk => by
    show gt (tab _ _) j k = true ↔ _
    rw [gt_tab hj hk]
    exact ⟨fun h => (by cases h), fun h => absurd h (Gk.st_empty j k)⟩
  | .let_ a, j, k, hj, hk => by
    show gt (tab _ _) j k = true ↔ _
    rw [gt_tab hj hk, Bool.and_eq_true, decide_eq_true_iff, decide_eq_true_iff, Gk.st_let]
  | .alt e f, j, k, hj, hk => by
    show gt (tab _ _) j k = true ↔ _
    rw [gt_tab hj hk, Bool.or_eq_true, sm_st hb e j k hj hk, sm_st hb f j k hj hk, Gk.st_alt]
  | .star e, j, k, hj, hk => by
    show gt (cl _ _ _) j k = true ↔ _
    have hR : ∀ a b, (a < ls.length ∧ b < ls.length ∧ St ls back e a b) → a < ls.length ∧ b < ls.length := fun a b h => ⟨h.1, h.2.1⟩
    rw [cl_up (R := fun a b => a < ls.length ∧ b < ls.length ∧ St ls back e a b) hR (fun a b ha hb' => by rw [sm_st hb e a b ha hb']; exact ⟨fun h => ⟨ha, hb', h⟩, fun h => h.2.2⟩) _ j k hj hk, ← Gk.tc_up hR, Gk.st_star]
    exact ⟨fun h => tc_congr (fun a b _ h => h.2.2) (fun a b _ h => h.2.1) h hj, fun h => tc_congr (fun a b ha h => ⟨ha, st_lt hb ha h, h⟩) (fun a b ha h => st_lt hb ha h) h hj⟩
  | .join e f, j, k, hj, hk => by
    have base : gt (cm ls.length (sm ls back e) (sm ls back f)) j k = true ↔ ∃ i, St ls back e j i ∧ St ls back f i k := by
      show gt (tab _ _) j k = true ↔ _
      rw [gt_tab hj hk, List.any_eq_true]
      constructor
      · rintro ⟨i, hi, z⟩
        have hi := List.mem_range.mp hi
        rw [Bool.and_eq_true, sm_st hb e j i hj hi, sm_st hb f i k hi hk] at z
        exact ⟨i, z⟩
      · rintro ⟨i, z1, z2⟩
        have hi := st_lt hb hj z1
        exact ⟨i, List.mem_range.mpr hi, by rw [Bool.and_eq_true, sm_st hb e j i hj hi, sm_st hb f i k hi hk]; exact ⟨z1, z2⟩⟩
    rw [Gk.st_join, ← base, ← sm_st hb f j k hj hk, ← sm_st hb e j k hj hk]
    show gt (if nul f = true then jn _ (if nul e = true then jn _ _ _ else _) _ else if nul e = true then jn _ _ _ else _) j k = true ↔ _
    by_cases ce : nul e = true
    · by_cases cf : nul f = true
      · rw [if_pos cf, if_pos ce]
        unfold jn
        rw [gt_tab hj hk, gt_tab hj hk, Bool.or_eq_true, Bool.or_eq_true]
        simp only [ce, cf, true_and, or_assoc]
      · rw [if_neg cf, if_pos ce]
        unfold jn
        rw [gt_tab hj hk, Bool.or_eq_true]
        simp only [ce, cf, true_and, false_and, or_false, Bool.false_eq_true]
    · by_cases cf : nul f = true
      · rw [if_pos cf, if_neg ce]
        unfold jn
        rw [gt_tab hj hk, Bool.or_eq_true]
        simp only [ce, cf, true_and, false_and, false_or, Bool.false_eq_true]
      · rw [if_neg cf, if_neg ce]
        simp only [ce, cf, false_and, or_false, Bool.false_eq_true]
abbrev jScope : Scope := { kind := ScopeKind.function, names := [(".0", NameKind.local), ("j", NameKind.cell), ("range", NameKind.globalImplicit), ("len", NameKind.globalImplicit), ("first", NameKind.cell), ("second", NameKind.cell)], isGenerator := false, isCoroutine := false }
def MxAt (H : Hp) (p : Addr) (M : Mx) : Prop := ∃ as : List Addr, H p = some (.lst (as.map V.ref)) ∧ as.length = M.length ∧ ∀ i a, as[i]? = some a → H a = some (.lst ((M.getD i []).map V.bl))
theorem MxAt.same {H H' : Hp} {p : Addr} {M : Mx} (s : Same H H') (h : MxAt H p M) : MxAt H' p M := by
  obtain ⟨as, h1, h2, h3⟩ := h
  exact ⟨as, s _ _ h1, h2, fun i a e => s _ _ (h3 i a e)⟩
theorem mx_row {n : Nat} {M : Mx} (h : Sq n M) {j : Nat} (hj : j < n) : ∃ r, M[j]? = some r ∧ r.length = n ∧ M.getD j [] = r := by
  have hj' : j < M.length := by rw [h.len]; exact hj
  refine ⟨M[j], List.getElem?_eq_getElem hj', h.row _ (List.getElem_mem _), ?_⟩
  rw [List.getD_eq_getElem?_getD, List.getElem?_eq_getElem hj']; rfl
theorem gt_at {n : Nat} {M : Mx} (h : Sq n M) {j k : Nat} (hj : j < n) (hk : k < n) : (M.getD j [])[k]? = some (gt M j k) := by
  obtain ⟨r, h1, h2, h3⟩ := mx_row h hj
  unfold gt
  rw [h3, List.getD_eq_getElem?_getD, List.getElem?_eq_getElem (by omega)]; rfl
def spJnd : Sp := fun vs H Q _ => ∃ (p q : Addr) (A B : Mx) (n : Nat), vs = [.ref p, .ref q] ∧ MxAt H p A ∧ MxAt H q B ∧ Sq n A ∧ Sq n B ∧ n ≤ 100 ∧ ∀ (H' : Hp) (r : Addr), Same H H' → MxAt H' r (jn n A B) → Q (.ref r) H'
theorem cal_jnd (T : Txt K mg) : C8.Cal P w K mg base 1 "_law_joined" spJnd [] := by
  obtain ⟨f, fd, F, hm, hb⟩ := T.h_law_joined
  refine ⟨f, fd, _, [], F.ok sc_law_joined (fun vs H Q E h => ?_) (fun cdv A outer s H vs Q E hr h => ?_), hm, F.kp, hb, .nil⟩
  · obtain ⟨p, q, A, B, n, rfl, _⟩ := h
    rfl
  · obtain ⟨p, qa, A, B, n, rfl, hA, hB, sA, sB, hn, q⟩ := h
    refine ⟨_, (pss_one
      (ps_ret (pe_lc (own := [("j", 2)]) (g := gName 2) (tt := tYes) rfl sc_law_joined.nd (pi_range1 (by rfl) T.z_range (pa_cons (pe_callB (call_lenK (K := K) rfl) (by rfl) T.z_len PySem.boot_len (pa_cons (pv 0) pa_nil)) pa_nil)) (blkOk_by (N := N_law_joined) (sc := defScope s_law_joined) (by decide +kernel)) (fun _ _ _ _ _ => (pg_name (i := 2) sc_law_joined.nd rfl (by first | exact Or.inl rfl | exact Or.inr rfl))) (fun _ _ _ _ _ => pts_nil) (fun _ _ _ _ _ => (pe_lc (own := [("k", 3)]) (g := gName 3) (tt := tYes) rfl sc_law_joined.nd (pi_range1 (by rfl) T.z_range (pa_cons (pe_callB (call_lenK (K := K) rfl) (by rfl) T.z_len PySem.boot_len (pa_cons (pv 0) pa_nil)) pa_nil)) (blkOk_by (N := N_law_joined) (sc := jScope) (by decide +kernel)) (fun _ _ _ _ _ => (pg_name (i := 3) sc_law_joined.nd rfl (Or.inl rfl))) (fun _ _ _ _ _ => pts_nil) (fun _ _ _ _ _ => (pe_or (pe_ix (ix_listK (K := K) rfl) (pe_ix (ix_listK (K := K) rfl) (pv 0) (pv 2) (fun _ _ => rfl)) (pv 3) (fun _ _ => rfl)) (pe_one (pe_ix (ix_listK (K := K) rfl) (pe_ix (ix_listK (K := K) rfl) (pv 1) (pv 2) (fun _ _ => rfl)) (pv 3) (fun _ _ => rfl)))))))))), ?_⟩
    obtain ⟨as, e1, e2, e3⟩ := id hA
    obtain ⟨bs, f1, f2, f3⟩ := id hB
    have hal : as.length = n := by rw [e2, sA.len]
    have hbl : bs.length = n := by rw [f2, sB.len]
    refine ⟨_, rfl, p, _, rfl, .inl (.of e1), _, rfl, by omega, by rw [List.length_map]; omega, fun D nD => ?_⟩
    rw [List.length_map, hal, Int.toNat_natCast]
    refine lc_range (lo := 0) (n := n) (fun i H' => ∃ cs : List Addr, Same H H' ∧ H' D = some (.lst (cs.map V.ref)) ∧ cs.length = i ∧ ∀ j a, cs[j]? = some a → a ≠ D ∧ H' a = some (.lst (((List.range n).map fun k => gt A j k || gt B j k).map V.bl)))
      ⟨[], same_new nD, upd_same, rfl, fun j a h => by (cases h)⟩ ?_ ?_
    · rintro i H1 hi ⟨cs, s1, eD, hcl, hcs⟩
      rw [Int.zero_add]
      refine ⟨rfl, _, rfl, p, _, rfl, .inl (.of (s1 _ _ e1)), _, rfl, by omega, by rw [List.length_map]; omega, fun E1 nE => ?_⟩
      rw [List.length_map, hal, Int.toNat_natCast]
      obtain ⟨a, ha⟩ : ∃ a, as[i]? = some a := ⟨_, List.getElem?_eq_getElem (by omega)⟩
      obtain ⟨b, hb⟩ : ∃ b, bs[i]? = some b := ⟨_, List.getElem?_eq_getElem (by omega)⟩
      refine lc_range (lo := 0) (n := n) (fun k H' => Same H1 H' ∧ H' E1 = some (.lst (((List.range k).map fun k => gt A i k || gt B i k).map V.bl)))
        ⟨same_new nE, upd_same⟩ ?_ ?_
      · rintro k H2 hk ⟨s2, eE⟩
        rw [Int.zero_add]
        have s02 := s1.trans s2
        have hlen : ((((List.range k).map fun k => gt A i k || gt B i k).map V.bl)).length < sizeLine := by
          rw [List.length_map, List.length_map, List.length_range]
          exact Nat.lt_of_le_of_lt (show k ≤ 100 by omega) (by decide)
        have fin : ∀ r : Bool, (gt A i k || gt B i k) = r → Same H1 (upd H2 E1 (.lst ((((List.range k).map fun k => gt A i k || gt B i k).map V.bl) ++ [V.bl r]))) ∧ upd H2 E1 (.lst ((((List.range k).map fun k => gt A i k || gt B i k).map V.bl) ++ [V.bl r])) E1 = some (.lst (((List.range (k + 1)).map fun k => gt A i k || gt B i k).map V.bl)) := fun r hr => by
          refine ⟨fun c o hc => ?_, ?_⟩
          · rw [upd_ne (ne_of_none hc nE)]; exact s2 _ _ hc
          · rw [upd_same, List.range_succ, List.map_append, List.map_append, ← hr]; rfl
        refine ⟨rfl, _, rfl, _, rfl, p, _, _, .ref a, rfl, rfl, .of (s02 _ _ e1), atN ha, _, rfl, a, _, _, .bl (gt A i k), rfl, rfl, .of (s02 _ _ (e3 i a ha)), atI_nat (by rw [List.getElem?_map, gt_at sA hi hk]; rfl), gt A i k, rfl, ?_⟩
        cases hg : gt A i k with
        | true => exact iteB_t rfl ⟨_, eE, hlen, fin true (by rw [hg]; rfl)⟩
        | false => exact iteB_f rfl ⟨_, rfl, _, rfl, qa, _, _, .ref b, rfl, rfl, .of (s02 _ _ f1), atN hb, _, rfl, b, _, _, .bl (gt B i k), rfl, rfl, .of (s02 _ _ (f3 i b hb)), atI_nat (by rw [List.getElem?_map, gt_at sB hi hk]; rfl), _, eE, hlen, fin _ (by rw [hg]; rfl)⟩
      · rintro H2 ⟨s2, eE⟩
        have nED : E1 ≠ D := fun z => by rw [z, eD] at nE; cases nE
        refine ⟨_, s2 _ _ eD, by rw [List.length_map, hcl]; exact Nat.lt_of_le_of_lt (show i ≤ 100 by omega) (by decide), cs ++ [E1], fun c o hc => ?_, ?_, by rw [List.length_append, hcl]; rfl, fun j a' hj => ?_⟩
        · rw [upd_ne (ne_of_none hc nD)]
          exact s2 _ _ (s1 _ _ hc)
        · rw [upd_same, List.map_append]; rfl
        · rcases snocg hj with ⟨_, h⟩ | ⟨h1, h2⟩
          · obtain ⟨n1, h3⟩ := hcs j a' h
            exact ⟨n1, by rw [upd_ne n1]; exact s2 _ _ h3⟩
          · subst h2
            rw [h1, hcl]
            exact ⟨nED, by rw [upd_ne nED]; exact eE⟩
    · rintro H1 ⟨cs, s1, eD, hcl, hcs⟩
      refine q H1 D s1 ⟨cs, eD, by rw [hcl]; exact (tab_sq n _).len.symm, fun i a h => ?_⟩
      have hi : i < n := by rw [← hcl]; exact lt_of_get h
      rw [(hcs i a h).2]
      unfold jn tab
      rw [List.getD_eq_getElem?_getD, List.getElem?_map, List.getElem?_range hi]
      rfl
def anyB (A B : Mx) (i k j : Nat) : Bool := (List.range k).any fun t => gt A i t && gt B t j
theorem anyB_succ (A B : Mx) (i k j : Nat) : anyB A B i (k + 1) j = (anyB A B i k j || (gt A i k && gt B k j)) := by
  unfold anyB
  rw [List.range_succ, List.any_append]
  simp
def spCmp : Sp := fun vs H Q _ => ∃ (p q : Addr) (A B : Mx) (n : Nat), vs = [.ref p, .ref q] ∧ MxAt H p A ∧ MxAt H q B ∧ Sq n A ∧ Sq n B ∧ n ≤ 100 ∧ ∀ (H' : Hp) (r : Addr), Same H H' → MxAt H' r (cm n A B) → Q (.ref r) H'
theorem cal_cmp (T : Txt K mg) : C8.Cal P w K mg base 1 "_law_composed" spCmp [] := by
  obtain ⟨f, fd, F, hm, hb⟩ := T.h_law_composed
  refine ⟨f, fd, _, [], F.ok sc_law_composed (fun vs H Q E h => ?_) (fun cdv A outer s H vs Q E hr h => ?_), hm, F.kp, hb, .nil⟩
  · obtain ⟨p, q, A, B, n, rfl, _⟩ := h
    rfl
  · obtain ⟨p, qa, A, B, n, rfl, hA, hB, sA, sB, hn, q⟩ := h
    refine ⟨_, (pss_cons
      (ps_set (i := 2) sc_law_composed.nd rfl (Or.inl rfl) (pe_lst pa_nil))
      (pss_cons
      (ps_for PassesOwn.never rfl (pi_list (pv 0)) (pg_name (i := 3) sc_law_composed.nd rfl (.inl rfl)) (pss_cons
      (ps_set (i := 4) sc_law_composed.nd rfl (Or.inr rfl) (pe_op op_rep (pe_lst (pa_cons pe_bl pa_nil)) (pe_callB (call_lenK (K := K) rfl) (by rfl) T.z_len PySem.boot_len (pa_cons (pv 3) pa_nil))))
      (pss_cons
      (ps_for PassesOwn.never rfl (pi_range1 (by rfl) T.z_range (pa_cons (pe_callB (call_lenK (K := K) rfl) (by rfl) T.z_len PySem.boot_len (pa_cons (pv 3) pa_nil)) pa_nil)) (pg_name (i := 5) sc_law_composed.nd rfl (.inr rfl)) (pss_one
      (ps_if (pt_val (pe_ix (ix_listK (K := K) rfl) (pv 3) (pv 5) (fun _ _ => rfl))) (pss_one
      (ps_set (i := 4) sc_law_composed.nd rfl (Or.inr rfl) (pe_lc (own := [("j", 6)]) (g := gName 6) (tt := tYes) rfl sc_law_composed.nd (pi_range1 (by rfl) T.z_range (pa_cons (pe_callB (call_lenK (K := K) rfl) (by rfl) T.z_len PySem.boot_len (pa_cons (pv 3) pa_nil)) pa_nil)) (blkOk_by (N := N_law_composed) (sc := defScope s_law_composed) (by decide +kernel)) (fun _ _ _ _ _ => (pg_name (i := 6) sc_law_composed.nd rfl (Or.inl rfl))) (fun _ _ _ _ _ => pts_nil) (fun _ _ _ _ _ => (pe_or (pe_ix (ix_listK (K := K) rfl) (pv 4) (pv 6) (fun _ _ => rfl)) (pe_one (pe_ix (ix_listK (K := K) rfl) (pe_ix (ix_listK (K := K) rfl) (pv 1) (pv 5) (fun _ _ => rfl)) (pv 6) (fun _ _ => rfl)))))))) pss_nil)))
      (pss_one
      (ps_expr (pe_bm PySem.F.plainAttrs_list PySem.F.slot_list_append PySem.F.type_list_append mt_append (pv 2) (pa_cons (pv 4) pa_nil)))))))
      (pss_one
      (ps_ret (pv 2))))), ?_⟩
    obtain ⟨as, e1, e2, e3⟩ := id hA
    obtain ⟨bs, f1, f2, f3⟩ := id hB
    have hal : as.length = n := by rw [e2, sA.len]
    have hbl : bs.length = n := by rw [f2, sB.len]
    refine ⟨Nat.zero_le _, fun D nD => ?_⟩
    generalize hX : upd H D _ = H0; obtain ⟨sH0, eD⟩ := nw nD hX; clear hX
    refine ⟨_, rfl, p, rfl, ⟨_, .of (sH0 _ _ e1)⟩, for_list (K := K) (a := p) (xs := as.map V.ref) (fun i σ H' => ∃ (v3 v4 v5 : Option V) (cs : List Addr), σ = [some (.ref p), some (.ref qa), some (.ref D), v3, v4, v5, none] ∧ Same H H' ∧ H' D = some (.lst (cs.map V.ref)) ∧ cs.length = i ∧ ∀ j a, cs[j]? = some a → a ≠ D ∧ H' a = some (.lst (((List.range n).map fun k => anyB A B j n k).map V.bl)))
      ⟨none, none, none, [], rfl, sH0, eD, rfl, fun j a h => by (cases h)⟩ (fun i σ H' _ ⟨_, _, _, _, _, z, _⟩ => .of (z _ _ e1)) ?_ ?_⟩
    · rintro i v σ H1 hi ⟨v3, v4, v5, cs, rfl, s1, eD, hcl, hcs⟩
      obtain ⟨a, ha, rfl⟩ := refsg hi
      have hil : i < n := by rw [← hal]; exact lt_of_get ha
      have hra := e3 i a ha
      obtain ⟨rw', hrw1, hrw2, hrw3⟩ := mx_row sA hil
      have hrl : ((A.getD i []).map V.bl).length = n := by rw [List.length_map, hrw3, hrw2]
      refine ⟨by show 1 ≤ sizeLine; decide, fun l nl => ?_⟩
      generalize hX : upd H1 l _ = H2; obtain ⟨sH2, el⟩ := nw nl hX; clear hX
      refine ⟨_, rfl, a, _, rfl, .inl (.of (sH2 _ _ (s1 _ _ hra))), l, _, _, rfl, rfl, el, by omega, by rw [hrl]; omega, ?_, fun E nE => ?_⟩
      · rw [hrl, Int.toNat_natCast]
        show 1 * n ≤ 16777216
        omega
      rw [hrl, Int.toNat_natCast, show (List.replicate n [V.bl false]).flatten = (List.replicate n false).map V.bl by simp]
      generalize hX : upd H2 E _ = H3; obtain ⟨sH3, eE⟩ := nw nE hX; clear hX
      have s3 := sH2.trans sH3
      have s03 := s1.trans s3
      have hrep : (List.replicate n false) = (List.range n).map fun k => anyB A B i 0 k := by
        apply List.ext_getElem?
        intro k
        rw [List.getElem?_map, List.getElem?_replicate]
        split
        · rename_i h; rw [List.getElem?_range h]; rfl
        · rename_i h; rw [List.getElem?_eq_none (by rw [List.length_range]; omega)]; rfl
      rw [hrep] at eE
      refine ⟨_, rfl, a, _, rfl, .inl (.of (s03 _ _ hra)), ?_⟩
      refine ⟨_, rfl, by omega, by rw [hrl]; omega, ?_⟩
      rw [hrl, Int.toNat_natCast]
      refine for_range (lo := 0) (n := n) (fun k σ H' => ∃ (E : Addr) (v5 : Option V), σ = [some (.ref p), some (.ref qa), some (.ref D), some (.ref a), some (.ref E), v5, none] ∧ Same H1 H' ∧ H1 E = none ∧ H' E = some (.lst (((List.range n).map fun j => anyB A B i k j).map V.bl)))
        ⟨E, v5, rfl, s3, sH2.free nE, eE⟩ ?_ ?_
      · clear eE nE s3 s03 sH3
        rintro k σ H4 hk ⟨E, v5, rfl, s4, nE, eE⟩
        rw [Int.zero_add]
        have s04 := s1.trans s4
        obtain ⟨b, hb⟩ : ∃ b, bs[k]? = some b := ⟨_, List.getElem?_eq_getElem (by omega)⟩
        refine ⟨_, rfl, _, rfl, a, _, _, .bl (gt A i k), rfl, rfl, .of (s04 _ _ hra), atI_nat (by rw [List.getElem?_map, gt_at sA hil hk]; rfl), gt A i k, rfl, ?_⟩
        cases hg : gt A i k with
        | false =>
          refine iteB_f rfl ⟨E, _, rfl, s4, nE, ?_⟩
          rw [eE]
          have : (fun j => anyB A B i k j) = fun j => anyB A B i (k + 1) j := funext fun j => by rw [anyB_succ, hg, Bool.false_and, Bool.or_false]
          rw [this]
        | true =>
          refine iteB_t rfl ?_
          refine ⟨_, rfl, a, _, rfl, .inl (.of (s04 _ _ hra)), _, rfl, by omega, by rw [hrl]; omega, fun G nG => ?_⟩
          rw [hrl, Int.toNat_natCast]
          refine lc_range (lo := 0) (n := n) (fun j H' => Same H4 H' ∧ H' G = some (.lst (((List.range j).map fun j => anyB A B i (k + 1) j).map V.bl)))
            ⟨same_new nG, upd_same⟩ ?_ ?_
          · rintro j H5 hj ⟨s5, eG⟩
            rw [Int.zero_add]
            have s05 := s04.trans s5
            have hlen : ((((List.range j).map fun j => anyB A B i (k + 1) j).map V.bl)).length < sizeLine := by
              rw [List.length_map, List.length_map, List.length_range]
              exact Nat.lt_of_le_of_lt (show j ≤ 100 by omega) (by decide)
            have fin : ∀ r : Bool, anyB A B i (k + 1) j = r → Same H4 (upd H5 G (.lst ((((List.range j).map fun j => anyB A B i (k + 1) j).map V.bl) ++ [V.bl r]))) ∧ upd H5 G (.lst ((((List.range j).map fun j => anyB A B i (k + 1) j).map V.bl) ++ [V.bl r])) G = some (.lst (((List.range (j + 1)).map fun j => anyB A B i (k + 1) j).map V.bl)) := fun r hr => by
              refine ⟨fun c o hc => ?_, ?_⟩
              · rw [upd_ne (ne_of_none hc nG)]; exact s5 _ _ hc
              · rw [upd_same, List.range_succ, List.map_append, List.map_append, ← hr]; rfl
            have hsucc : anyB A B i (k + 1) j = (anyB A B i k j || gt B k j) := by rw [anyB_succ, hg, Bool.true_and]
            refine ⟨rfl, _, rfl, _, rfl, E, _, _, .bl (anyB A B i k j), rfl, rfl, .of (s5 _ _ eE), atI_nat (by rw [List.getElem?_map, List.getElem?_map, List.getElem?_range hj]; rfl), anyB A B i k j, rfl, ?_⟩
            cases ha1 : anyB A B i k j with
            | true => exact iteB_t rfl ⟨_, eG, hlen, fin true (by rw [hsucc, ha1]; rfl)⟩
            | false => exact iteB_f rfl ⟨_, rfl, _, rfl, qa, _, _, .ref b, rfl, rfl, .of (s05 _ _ f1), atN hb, _, rfl, b, _, _, .bl (gt B k j), rfl, rfl, .of (s05 _ _ (f3 k b hb)), atI_nat (by rw [List.getElem?_map, gt_at sB hk hj]; rfl), _, eG, hlen, fin _ (by rw [hsucc, ha1]; rfl)⟩
          · rintro H5 ⟨s5, eG⟩
            exact ⟨G, _, rfl, s4.trans s5, s4.free nG, eG⟩
      · rintro σ H4 ⟨E, v5, rfl, s4, nE, eE⟩
        have s04 := s1.trans s4
        have eD4 := s4 _ _ eD
        have nED : E ≠ D := fun z => by rw [z, eD] at nE; cases nE
        refine ⟨_, rfl, .inl ⟨rfl, _, .of eD4⟩, _, rfl, D, _, _, rfl, rfl, eD4, by rw [List.length_map, hcl]; exact Nat.lt_of_le_of_lt (show i ≤ 100 by omega) (by decide), ?_⟩
        refine ⟨_, _, _, cs ++ [E], rfl, fun c o hc => ?_, by rw [upd_same, List.map_append]; rfl, by rw [List.length_append, hcl]; rfl, fun j a' hj => ?_⟩
        · rw [upd_ne (ne_of_none hc nD)]
          exact s04 _ _ hc
        · rcases snocg hj with ⟨_, h⟩ | ⟨h1, h2⟩
          · obtain ⟨n1, h3⟩ := hcs j a' h
            exact ⟨n1, by rw [upd_ne n1]; exact s4 _ _ h3⟩
          · subst h2
            rw [h1, hcl]
            exact ⟨nED, by rw [upd_ne nED]; exact eE⟩
    · rintro σ H1 ⟨v3, v4, v5, cs, rfl, s1, eD, hcl, hcs⟩
      rw [List.length_map, hal] at hcl
      refine ⟨_, rfl, q H1 D s1 ⟨cs, eD, by rw [hcl]; exact (tab_sq n _).len.symm, fun i a h => ?_⟩⟩
      have hi : i < n := by rw [← hcl]; exact lt_of_get h
      rw [(hcs i a h).2]
      unfold cm tab
      rw [List.getD_eq_getElem?_getD, List.getElem?_map, List.getElem?_range hi]
      rfl
def spClo : Sp := fun vs H Q _ => ∃ (p : Addr) (A : Mx) (n : Nat), vs = [.ref p] ∧ MxAt H p A ∧ Sq n A ∧ n ≤ 100 ∧ ∀ (H' : Hp) (r : Addr), Same H H' → MxAt H' r (cl n A n) → Q (.ref r) H'
theorem cal_clo (T : Txt K mg) : C8.Cal P w K mg base 2 "_law_closed" spClo [] := by
  have C_law_joined : C8.Cal P w K mg base 1 "_law_joined" spJnd [] := cal_jnd T
  have C_law_composed : C8.Cal P w K mg base 1 "_law_composed" spCmp [] := cal_cmp T
  obtain ⟨f, fd, F, hm, hb⟩ := T.h_law_closed
  refine ⟨f, fd, _, [], F.ok sc_law_closed (fun vs H Q E h => ?_) (fun cdv A outer s H vs Q E hr h => ?_), hm, F.kp, hb, .nil⟩
  · obtain ⟨p, A, n, rfl, _⟩ := h
    rfl
  · obtain ⟨p, A, n, rfl, hA, sA, hn, q⟩ := h
    refine ⟨_, (pss_cons
      (ps_set (i := 1) sc_law_closed.nd rfl (Or.inl rfl) (pv 0))
      (pss_cons
      (ps_for PassesOwn.never rfl (pi_range1 (by rfl) T.z_range (pa_cons (pe_callB (call_lenK (K := K) rfl) (by rfl) T.z_len PySem.boot_len (pa_cons (pv 0) pa_nil)) pa_nil)) (pg_name (i := 2) sc_law_closed.nd rfl (.inl rfl)) (pss_one
      (ps_set (i := 1) sc_law_closed.nd rfl (Or.inl rfl) (C8.pe_c C_law_joined hr (by decide) (by rfl) (pa_cons (pv 1) (pa_cons (C8.pe_c C_law_composed hr (by decide) (by rfl) (pa_cons (pv 1) (pa_cons (pv 0) pa_nil))) pa_nil))))))
      (pss_one
      (ps_ret (pv 1))))), ?_⟩
    obtain ⟨as, e1, e2, e3⟩ := id hA
    have hal : (as.map V.ref).length = n := by rw [List.length_map, e2, sA.len]
    refine ⟨_, rfl, ?_⟩
    refine ⟨_, rfl, p, _, rfl, .inl (.of e1), _, rfl, by omega, by rw [hal]; omega, ?_⟩
    rw [hal, Int.toNat_natCast]
    refine for_range (lo := 0) (n := n) (fun t σ H' => ∃ (g : Addr) (v2 : Option V), σ = [some (.ref p), some (.ref g), v2] ∧ Same H H' ∧ MxAt H' g (cl n A t))
      ⟨p, none, rfl, Same.refl _, hA⟩ ?_ ?_
    · rintro t σ H1 ht ⟨g, v2, rfl, s1, hg⟩
      refine ⟨_, rfl, _, rfl, _, rfl, g, p, cl n A t, A, n, rfl, hg, hA.same s1, cl_sq sA t, sA, hn, fun H2 r s2 hr => ?_⟩
      refine ⟨g, r, cl n A t, cm n (cl n A t) A, n, rfl, hg.same s2, hr, cl_sq sA t, tab_sq n _, hn, fun H3 r3 s3 hr3 => ?_⟩
      exact ⟨r3, _, rfl, (s1.trans s2).trans s3, hr3⟩
    · rintro σ H1 ⟨g, v2, rfl, s1, hg⟩
      exact ⟨_, rfl, q H1 g s1 hg⟩
open Gk (Ex Lg nul np fs la fo)
def spNulE (K : PySem.W.Frag) : Nat → Sp
  | 0 => fun _ _ _ _ => False
  | n + 1 => fun vs H Q _ => ∃ (v : V) (e : Ex), vs = [v] ∧ ExAt K H v e ∧ dep e ≤ n ∧ ∀ H', Same H H' → Q (.bl (nul e)) H'
theorem cal_nulE_step {n : Nat} (T : Txt K mg) (C_law_nullable : C8.Cal P w K mg base (1 + n) "_law_nullable" (spNulE K n) []) : C8.Cal P w K mg base (1 + n + 1) "_law_nullable" (spNulE K (n + 1)) [] := by
  obtain ⟨f, fd, F, hm, hb⟩ := T.h_law_nullable
  refine ⟨f, fd, _, [], F.ok sc_law_nullable (fun vs H Q E h => ?_) (fun cdv A outer s H vs Q E hr h => ?_), hm, F.kp, hb, .nil⟩
  · obtain ⟨v, e, rfl, _⟩ := h
    rfl
  · obtain ⟨v, e, rfl, he, hd, q⟩ := h
    refine ⟨_, (pss_cons
      (ps_if (pt_cmpR (op_inK (K := K) rfl) (pe_ix (ix_tupK (K := K) rfl) (pv 0) pe_int (fun _ _ => rfl)) (pe_tup (pa_cons pe_str (pa_cons pe_str pa_nil))) (by rfl)) (pss_one
      (ps_ret pe_bl)) pss_nil)
      (pss_cons
      (ps_if (pt_cmpR op_eq (pe_ix (ix_tupK (K := K) rfl) (pv 0) pe_int (fun _ _ => rfl)) pe_str (nomark _)) (pss_one
      (ps_ret (pe_and (C8.pe_c C_law_nullable hr (by omega) (by rfl) (pa_cons (pe_ix (ix_tupK (K := K) rfl) (pv 0) pe_int (fun _ _ => rfl)) pa_nil)) (pe_one (C8.pe_c C_law_nullable hr (by omega) (by rfl) (pa_cons (pe_ix (ix_tupK (K := K) rfl) (pv 0) pe_int (fun _ _ => rfl)) pa_nil)))))) pss_nil)
      (pss_one
      (ps_ret (pe_and (pe_cmpR op_eq (pe_ix (ix_tupK (K := K) rfl) (pv 0) pe_int (fun _ _ => rfl)) pe_str (nomark _)) (pe_one (pe_or (C8.pe_c C_law_nullable hr (by omega) (by rfl) (pa_cons (pe_ix (ix_tupK (K := K) rfl) (pv 0) pe_int (fun _ _ => rfl)) pa_nil)) (pe_one (C8.pe_c C_law_nullable hr (by omega) (by rfl) (pa_cons (pe_ix (ix_tupK (K := K) rfl) (pv 0) pe_int (fun _ _ => rfl)) pa_nil)))))))))), ?_⟩
    cases e with
    | none =>
      obtain ⟨a, rfl, ha⟩ := he
      refine ⟨_, rfl, a, _, _, _, rfl, rfl, ha, rfl, by show 2 ≤ sizeLine; decide, fun t1 nt1 => ?_⟩
      generalize hX : upd H t1 _ = H1; obtain ⟨sH1, et1⟩ := nw nt1 hX; clear hX
      have ha1 := sqt_tk (TK.of sH1) ha
      refine ⟨t1, _, rfl, .inr (.of et1), rfl, rfl, _, rfl, iteB_f (by rfl) ?_⟩
      refine ⟨_, rfl, a, _, _, _, rfl, rfl, ha1, rfl, rfl, _, rfl, iteF ?_⟩
      exact ⟨_, rfl, a, _, _, _, rfl, rfl, ha1, rfl, rfl, _, rfl, iteF (q H1 sH1)⟩
    | empty =>
      obtain ⟨a, rfl, ha⟩ := he
      refine ⟨_, rfl, a, _, _, _, rfl, rfl, ha, rfl, by show 2 ≤ sizeLine; decide, fun t1 nt1 => ?_⟩
      generalize hX : upd H t1 _ = H1; obtain ⟨sH1, et1⟩ := nw nt1 hX; clear hX
      exact ⟨t1, _, rfl, .inr (.of et1), rfl, rfl, _, rfl, iteB_t (by rfl) (q H1 sH1)⟩
    | let_ z =>
      obtain ⟨a, rfl, ha⟩ := he
      refine ⟨_, rfl, a, _, _, _, rfl, rfl, ha, rfl, by show 2 ≤ sizeLine; decide, fun t1 nt1 => ?_⟩
      generalize hX : upd H t1 _ = H1; obtain ⟨sH1, et1⟩ := nw nt1 hX; clear hX
      have ha1 := sqt_tk (TK.of sH1) ha
      refine ⟨t1, _, rfl, .inr (.of et1), rfl, rfl, _, rfl, iteB_f (by rfl) ?_⟩
      refine ⟨_, rfl, a, _, _, _, rfl, rfl, ha1, rfl, rfl, _, rfl, iteF ?_⟩
      exact ⟨_, rfl, a, _, _, _, rfl, rfl, ha1, rfl, rfl, _, rfl, iteF (q H1 sH1)⟩
    | star e =>
      obtain ⟨a, v1, rfl, ha, hv⟩ := he
      refine ⟨_, rfl, a, _, _, _, rfl, rfl, ha, rfl, by show 2 ≤ sizeLine; decide, fun t1 nt1 => ?_⟩
      generalize hX : upd H t1 _ = H1; obtain ⟨sH1, et1⟩ := nw nt1 hX; clear hX
      exact ⟨t1, _, rfl, .inr (.of et1), rfl, rfl, _, rfl, iteB_t (by rfl) (q H1 sH1)⟩
    | join e f =>
      obtain ⟨a, v1, v2, rfl, ha, hv, hw⟩ := he
      obtain ⟨n', rfl⟩ : ∃ n', n = n' + 1 := by
        cases n with
        | zero => exact absurd hd (by show ¬ max (dep e) (dep f) + 1 ≤ 0; omega)
        | succ n' => exact ⟨n', rfl⟩
      have hd : max (dep e) (dep f) + 1 ≤ n' + 1 := hd
      refine ⟨_, rfl, a, _, _, _, rfl, rfl, ha, rfl, by show 2 ≤ sizeLine; decide, fun t1 nt1 => ?_⟩
      generalize hX : upd H t1 _ = H1; obtain ⟨sH1, et1⟩ := nw nt1 hX; clear hX
      have ha1 := sqt_tk (TK.of sH1) ha
      refine ⟨t1, _, rfl, .inr (.of et1), rfl, rfl, _, rfl, iteB_f (by rfl) ?_⟩
      refine ⟨_, rfl, a, _, _, _, rfl, rfl, ha1, rfl, rfl, _, rfl, iteT ?_⟩
      refine ⟨_, rfl, a, _, _, _, rfl, rfl, ha1, rfl, v1, e, rfl, hv.same sH1, by omega, fun H2 s2 => ⟨nul e, rfl, ?_⟩⟩
      have s02 := sH1.trans s2
      cases hn : nul e with
      | false => exact iteB_f rfl (by have := q H2 s02; rwa [show nul (.join e f) = false from by show (nul e && nul f) = false; rw [hn]; rfl] at this)
      | true => exact iteB_t rfl ⟨_, rfl, a, _, _, _, rfl, rfl, sqt_tk (TK.of s2) ha1, rfl, v2, f, rfl, hw.same s02, by omega, fun H3 s3 => by have := q H3 (s02.trans s3); rwa [show nul (.join e f) = nul f from by show (nul e && nul f) = nul f; rw [hn]; rfl] at this⟩
    | alt e f =>
      obtain ⟨a, v1, v2, rfl, ha, hv, hw⟩ := he
      obtain ⟨n', rfl⟩ : ∃ n', n = n' + 1 := by
        cases n with
        | zero => exact absurd hd (by show ¬ max (dep e) (dep f) + 1 ≤ 0; omega)
        | succ n' => exact ⟨n', rfl⟩
      have hd : max (dep e) (dep f) + 1 ≤ n' + 1 := hd
      refine ⟨_, rfl, a, _, _, _, rfl, rfl, ha, rfl, by show 2 ≤ sizeLine; decide, fun t1 nt1 => ?_⟩
      generalize hX : upd H t1 _ = H1; obtain ⟨sH1, et1⟩ := nw nt1 hX; clear hX
      have ha1 := sqt_tk (TK.of sH1) ha
      refine ⟨t1, _, rfl, .inr (.of et1), rfl, rfl, _, rfl, iteB_f (by rfl) ?_⟩
      refine ⟨_, rfl, a, _, _, _, rfl, rfl, ha1, rfl, rfl, _, rfl, iteF ?_⟩
      refine ⟨_, rfl, a, _, _, _, rfl, rfl, ha1, rfl, rfl, _, rfl, iteT ?_⟩
      refine ⟨_, rfl, a, _, _, _, rfl, rfl, ha1, rfl, v1, e, rfl, hv.same sH1, by omega, fun H2 s2 => ⟨nul e, rfl, ?_⟩⟩
      have s02 := sH1.trans s2
      cases hn : nul e with
      | true => exact iteB_t rfl (by have := q H2 s02; rwa [show nul (.alt e f) = true from by show (nul e || nul f) = true; rw [hn]; rfl] at this)
      | false => exact iteB_f rfl ⟨_, rfl, a, _, _, _, rfl, rfl, sqt_tk (TK.of s2) ha1, rfl, v2, f, rfl, hw.same s02, by omega, fun H3 s3 => by have := q H3 (s02.trans s3); rwa [show nul (.alt e f) = nul f from by show (nul e || nul f) = nul f; rw [hn]; rfl] at this⟩
theorem cal_nulE (T : Txt K mg) : ∀ n, C8.Cal P w K mg base (1 + n) "_law_nullable" (spNulE K n) []
  | 0 => by
    obtain ⟨f, fd, F, hm, hb⟩ := T.h_law_nullable
    exact ⟨f, fd, _, [], ⟨fun vs H Q E h => h.elim, fun A outer s H args us vs Q E _ _ _ _ h => h.elim⟩, hm, F.kp, hb, .nil⟩
  | n + 1 => cal_nulE_step T (cal_nulE T n)
open Gk (Ex Lg nul np fs la fo)
theorem ex_kp {d : Addr} {H H' : Hp} {v : V} {e : Ex} (k : Kp d H H') (hd : Drw H d) (h : ExAt K H v e) : ExAt K H' v e := by
  obtain ⟨ds, hd⟩ := hd
  exact h.tk (TK.kp k hd (by intro _ z; cases z) (by intro _ _ z; cases z))
theorem viaP {A G : Prop} (f : A → G) (a : A) : G := f a
def Lt (L : Int) (e : Ex) : Prop := ∀ z ∈ Gk.lt e, 0 ≤ z ∧ z < L
def spExpr (K : PySem.W.Frag) : Nat → Sp
  | 0 => fun _ _ _ _ => False
  | n + 1 => fun vs H Q _ => ∃ (d : Addr) (L : Int), vs = [.ref d, .int L, .int (n : Nat)] ∧ Drw H d ∧ 1 ≤ L ∧ L ≤ 100 ∧
    ∀ (H' : Hp) (v : V) (e : Ex), Kp d H H' → Drw H' d → ExAt K H' v e → Lt L e → np e ≤ 2 ^ n → dep e ≤ n → Q v H'
theorem cal_expr_step {n : Nat} (T : Txt K mg) (C_law_expression : C8.Cal P w K mg base (1 + n) "_law_expression" (spExpr K n) []) : C8.Cal P w K mg base (1 + n + 1) "_law_expression" (spExpr K (n + 1)) [] := by
  have C_law_take : C8.Cal P w K mg base 1 "_law_take" spTake [] := cal_take T
  obtain ⟨f, fd, F, hm, hb⟩ := T.h_law_expression
  refine ⟨f, fd, _, [], F.ok sc_law_expression (fun vs H Q E h => ?_) (fun cdv A outer s H vs Q E hr h => ?_), hm, F.kp, hb, .nil⟩
  · obtain ⟨d, L, rfl, _⟩ := h
    rfl
  · obtain ⟨d, L, rfl, hd, hL1, hL2, q⟩ := h
    refine ⟨_, (pss_cons
      (ps_set (i := 3) sc_law_expression.nd rfl (Or.inl rfl) (C8.pe_c C_law_take hr (by omega) (by rfl) (pa_cons (pv 0) (pa_cons pe_int pa_nil))))
      (pss_cons
      (ps_if (PW.pt (pw_or (pt_cmpR op_eq (pv 2) pe_int (nomark _)) (pw_or1 (pt_cmpR op_lt (pv 3) pe_int (nomark _))))) (pss_cons
      (ps_if (pt_cmpR op_eq (pv 3) pe_int (nomark _)) (pss_one
      (ps_ret (pe_tup (pa_cons (pe_ix (ix_listK (K := K) rfl) (pe_lst (pa_cons pe_str (pa_cons pe_str pa_nil))) (C8.pe_c C_law_take hr (by omega) (by rfl) (pa_cons (pv 0) (pa_cons pe_int pa_nil))) (fun _ _ => rfl)) pa_nil)))) pss_nil)
      (pss_one
      (ps_ret (pe_tup (pa_cons pe_str (pa_cons (C8.pe_c C_law_take hr (by omega) (by rfl) (pa_cons (pv 0) (pa_cons (pv 1) pa_nil))) pa_nil)))))) pss_nil)
      (pss_cons
      (ps_if (pt_cmpR op_lt (pv 3) pe_int (nomark _)) (pss_one
      (ps_ret (pe_tup (pa_cons pe_str (pa_cons (C8.pe_c C_law_expression hr (by omega) (by rfl) (pa_cons (pv 0) (pa_cons (pv 1) (pa_cons (pe_op op_sub (pv 2) pe_int) pa_nil)))) pa_nil))))) pss_nil)
      (pss_cons
      (ps_set (i := 4) sc_law_expression.nd rfl (Or.inl rfl) (C8.pe_c C_law_expression hr (by omega) (by rfl) (pa_cons (pv 0) (pa_cons (pv 1) (pa_cons (pe_op op_sub (pv 2) pe_int) pa_nil)))))
      (pss_one
      (ps_ret (pe_tup (pa_cons (pe_ix (ix_listK (K := K) rfl) (pe_lst (pa_cons pe_str (pa_cons pe_str pa_nil))) (pe_op op_mod (pv 3) pe_int) (fun _ _ => rfl)) (pa_cons (pv 4) (pa_cons (C8.pe_c C_law_expression hr (by omega) (by rfl) (pa_cons (pv 0) (pa_cons (pv 1) (pa_cons (pe_op op_sub (pv 2) pe_int) pa_nil)))) pa_nil)))))))))), ?_⟩
    refine ⟨_, rfl, d, 12, rfl, hd, by decide, fun r ds r0 r1 => ?_⟩
    have k1 : Kp d H (upd H d (.lst (ds.map V.int))) := Kp.own
    have d1 : Drw (upd H d (.lst (ds.map V.int))) d := Drw.own
    generalize upd H d (.lst (ds.map V.int)) = H1 at k1 d1 ⊢
    have p2 : 1 ≤ 2 ^ n := Nat.one_le_two_pow
    refine ⟨_, rfl, rfl, _, rfl, ?_⟩
    refine viaP (fun leaf => ite_eq (fun _ => leaf) (fun cn => ⟨_, rfl, _, _, rfl, rfl, _, rfl, ite_lt (fun _ => leaf) (fun c3 => ?_)⟩)) ?_
    rotate_left
    · refine ⟨_, rfl, rfl, _, rfl, ite_eq (fun _ => ?_) (fun _ => ?_)⟩
      · refine ⟨by show 2 ≤ sizeLine; decide, fun t1 nt1 => ?_⟩
        generalize hX : upd H1 t1 _ = H2; obtain ⟨sH2, et1⟩ := nw nt1 hX; clear hX
        have d2 := d1.same sH2
        have n1d : t1 ≠ d := fun z => by obtain ⟨y, hy⟩ := d1; rw [z, hy] at nt1; cases nt1
        refine ⟨_, rfl, d, 2, rfl, d2, by decide, fun r2 ds2 r20 r21 => ?_⟩
        have k3 : Kp d H2 (upd H2 d (.lst (ds2.map V.int))) := Kp.own
        have d3 : Drw (upd H2 d (.lst (ds2.map V.int))) d := Drw.own
        have et3 := k3 _ _ n1d et1
        generalize upd H2 d (.lst (ds2.map V.int)) = H3 at k3 d3 et3 ⊢
        have k03 := (k1.trans (Same.kp sH2)).trans k3
        have h2 : r2 = 0 ∨ r2 = 1 := by omega
        rcases h2 with rfl | rfl
        · refine ⟨t1, _, _, .str "none", rfl, rfl, .of et3, rfl, by show 1 ≤ sizeLine; decide, fun p np' => ?_⟩
          exact q _ _ .none (k03.trans (Kp.new np')) (d3.new np') ⟨p, rfl, .of upd_same⟩ (fun z hz => by cases hz) (Nat.zero_le _) (Nat.zero_le _)
        · refine ⟨t1, _, _, .str "empty", rfl, rfl, .of et3, rfl, by show 1 ≤ sizeLine; decide, fun p np' => ?_⟩
          exact q _ _ .empty (k03.trans (Kp.new np')) (d3.new np') ⟨p, rfl, .of upd_same⟩ (fun z hz => by cases hz) (Nat.zero_le _) (Nat.zero_le _)
      · refine ⟨_, rfl, _, rfl, d, L, rfl, d1, by omega, fun r2 ds2 r20 r21 => ?_⟩
        have k3 : Kp d H1 (upd H1 d (.lst (ds2.map V.int))) := Kp.own
        have d3 : Drw (upd H1 d (.lst (ds2.map V.int))) d := Drw.own
        generalize upd H1 d (.lst (ds2.map V.int)) = H3 at k3 d3 ⊢
        refine ⟨by show 2 ≤ sizeLine; decide, fun p np' => ?_⟩
        exact q _ _ (.let_ r2) ((k1.trans k3).trans (Kp.new np')) (d3.new np') ⟨p, rfl, .of upd_same⟩ (fun z hz => by rw [List.mem_singleton.mp hz]; exact ⟨r20, r21⟩) p2 (Nat.zero_le _)
    obtain ⟨n', rfl⟩ : ∃ n', n = n' + 1 := ⟨n - 1, by omega⟩
    have hdp : (((n' + 1 : Nat) : Int) - 1) = (n' : Int) := by omega
    have rcl : ∀ (H2 : Hp) (Q2 : VK) (E2 : XK), Drw H2 d → (∀ (H' : Hp) (v : V) (e : Ex), Kp d H2 H' → Drw H' d → ExAt K H' v e → Lt L e → np e ≤ 2 ^ n' → dep e ≤ n' → Q2 v H') → spExpr K (n' + 1) [.ref d, .int L, .int (((n' + 1 : Nat) : Int) - 1)] H2 Q2 E2 := fun H2 Q2 E2 d2 q2 =>
      ⟨d, L, by rw [hdp], d2, hL1, hL2, q2⟩
    have pw : 2 ^ (n' + 1) = 2 ^ n' + 2 ^ n' := by rw [Nat.pow_succ]; omega
    refine ⟨_, rfl, _, _, rfl, rfl, _, rfl, ite_lt (fun c6 => ?_) (fun c6 => ?_)⟩
    · refine ⟨_, rfl, _, rfl, _, rfl, _, _, rfl, rfl, rcl _ _ C8.E0 d1 fun H2 v e k2 d2 e2 l2 h2 hd2 => ?_⟩
      refine ⟨by show 2 ≤ sizeLine; decide, fun p np' => ?_⟩
      exact q _ _ (.star e) ((k1.trans k2).trans (Kp.new np')) (d2.new np') ⟨p, v, rfl, .of upd_same, e2.same (same_new np')⟩ l2 (by show np e ≤ _; omega) (by show dep e + 1 ≤ _; omega)
    · refine ⟨_, rfl, _, rfl, _, rfl, _, _, rfl, rfl, rcl _ _ C8.E0 d1 fun H2 v e k2 d2 e2 l2 h2 hd2 => ?_⟩
      refine ⟨by show 2 ≤ sizeLine; decide, fun t1 nt1 => ?_⟩
      generalize hX : upd H2 t1 _ = H3; obtain ⟨sH3, et1⟩ := nw nt1 hX; clear hX
      have d3 := d2.same sH3
      have e3 := e2.same sH3
      refine ⟨_, rfl, _, _, rfl, rfl, (show (0 : Int) < 2 by decide), ?_⟩
      have hm : r % 2 = 0 ∨ r % 2 = 1 := by omega
      have n1d : t1 ≠ d := fun z => by obtain ⟨y, hy⟩ := d2; rw [z, hy] at nt1; cases nt1
      have k03 := (k1.trans k2).trans (Same.kp sH3)
      have app : ∀ {e2 : Ex}, Lt L e2 → ∀ z ∈ Gk.lt e ++ Gk.lt e2, 0 ≤ z ∧ z < L := fun h z hz => (List.mem_append.mp hz).elim (l2 z) (h z)
      rcases hm with hm | hm
      · refine ⟨t1, _, _, .str "join", rfl, rfl, .of et1, by show atI _ (r % 2) = _; rw [hm]; rfl, ?_⟩
        refine ⟨_, rfl, _, rfl, _, rfl, _, rfl, _, _, rfl, rfl, rcl _ _ C8.E0 d3 fun H4 v' e' k4 d4 e4 l4 h4 hd4 => ?_⟩
        refine ⟨by show 3 ≤ sizeLine; decide, fun p np' => ?_⟩
        exact q _ _ (.join e e') ((k03.trans k4).trans (Kp.new np')) (d4.new np') ⟨p, v, v', rfl, .of upd_same, (ex_kp k4 d3 e3).same (same_new np'), e4.same (same_new np')⟩ (app l4) (by rw [Gk.np_join]; omega) (by show max _ _ + 1 ≤ _; omega)
      · refine ⟨t1, _, _, .str "either", rfl, rfl, .of et1, by show atI _ (r % 2) = _; rw [hm]; rfl, ?_⟩
        refine ⟨_, rfl, _, rfl, _, rfl, _, rfl, _, _, rfl, rfl, rcl _ _ C8.E0 d3 fun H4 v' e' k4 d4 e4 l4 h4 hd4 => ?_⟩
        refine ⟨by show 3 ≤ sizeLine; decide, fun p np' => ?_⟩
        exact q _ _ (.alt e e') ((k03.trans k4).trans (Kp.new np')) (d4.new np') ⟨p, v, v', rfl, .of upd_same, (ex_kp k4 d3 e3).same (same_new np'), e4.same (same_new np')⟩ (app l4) (by rw [Gk.np_alt]; omega) (by show max _ _ + 1 ≤ _; omega)
theorem cal_expr (T : Txt K mg) : ∀ n, C8.Cal P w K mg base (1 + n) "_law_expression" (spExpr K n) []
  | 0 => by
    obtain ⟨f, fd, F, hm, hb⟩ := T.h_law_expression
    exact ⟨f, fd, _, [], ⟨fun vs H Q E h => h.elim, fun A outer s H args us vs Q E _ _ _ _ h => h.elim⟩, hm, F.kp, hb, .nil⟩
  | n + 1 => cal_expr_step T (cal_expr T n)
open Gk (Ex Lg nul np fs la fo)
def spSte (K : PySem.W.Frag) : Nat → Sp
  | 0 => fun _ _ _ _ => False
  | n + 1 => fun vs H Q _ => ∃ (v : V) (p : Addr) (bk : Nat) (e : Ex) (ls : List Int), vs = [v, .ref p, .int (bk : Nat)] ∧ ExAt K H v e ∧ H p = some (.lst (ls.map V.int)) ∧ ls.length ≤ 100 ∧ bk < ls.length ∧ dep e ≤ n ∧
    ∀ (H' : Hp) (r : Addr), Same H H' → MxAt H' r (sm ls bk e) → Q (.ref r) H'
theorem dec_nat (a b : Nat) : decide (V.int (a : Nat) = V.int (b : Nat)) = decide (a = b) := by
  by_cases c : a = b
  · rw [c, decide_eq_true rfl, decide_eq_true rfl]
  · rw [decide_eq_false c, decide_eq_false (fun z => c (by have := V.int.inj z; omega))]
theorem dec_int (a b : Int) : decide (V.int a = V.int b) = decide (a = b) := by
  by_cases c : a = b
  · rw [c, decide_eq_true rfl, decide_eq_true rfl]
  · rw [decide_eq_false c, decide_eq_false (fun z => c (V.int.inj z))]
theorem tab_row {n i : Nat} {f : Nat → Nat → Bool} (hi : i < n) : (tab n f).getD i [] = (List.range n).map fun k => f i k := by
  unfold tab
  rw [List.getD_eq_getElem?_getD, List.getElem?_map, List.getElem?_range hi]
  rfl
theorem row_false (n : Nat) : (List.replicate n false) = (List.range n).map fun _ => false := by
  apply List.ext_getElem?
  intro k
  rw [List.getElem?_map, List.getElem?_replicate]
  split
  · rename_i h; rw [List.getElem?_range h]; rfl
  · rename_i h; rw [List.getElem?_eq_none (by rw [List.length_range]; omega)]; rfl
theorem cal_ste_step {n : Nat} (T : Txt K mg) (C_law_steps : C8.Cal P w K mg base (3 + n) "_law_steps" (spSte K n) []) : C8.Cal P w K mg base (3 + n + 1) "_law_steps" (spSte K (n + 1)) [] := by
  have C_law_nullable : C8.Cal P w K mg base (1 + (n + 1)) "_law_nullable" (spNulE K (n + 1)) [] := cal_nulE T (n + 1)
  have C_law_joined : C8.Cal P w K mg base 1 "_law_joined" spJnd [] := cal_jnd T
  have C_law_composed : C8.Cal P w K mg base 1 "_law_composed" spCmp [] := cal_cmp T
  have C_law_closed : C8.Cal P w K mg base 2 "_law_closed" spClo [] := cal_clo T
  obtain ⟨f, fd, F, hm, hb⟩ := T.h_law_steps
  refine ⟨f, fd, _, [], F.ok sc_law_steps (fun vs H Q E h => ?_) (fun cdv A outer s H vs Q E hr h => ?_), hm, F.kp, hb, .nil⟩
  · obtain ⟨v, p, bk, e, ls, rfl, _⟩ := h
    rfl
  · obtain ⟨v, p, bk, e, ls, rfl, he, hp, hl, hbk, hd, q⟩ := h
    refine ⟨_, (pss_cons
      (ps_set (i := 3) sc_law_steps.nd rfl (Or.inr rfl) (pe_callB (call_lenK (K := K) rfl) (by rfl) T.z_len PySem.boot_len (pa_cons (pv 1) pa_nil)))
      (pss_cons
      (ps_if (pt_cmpR op_eq (pe_ix (ix_tupK (K := K) rfl) (pv 0) pe_int (fun _ _ => rfl)) pe_str (nomark _)) (pss_cons
      (ps_set (i := 4) sc_law_steps.nd rfl (Or.inl rfl) (pe_lst pa_nil))
      (pss_cons
      (ps_for PassesOwn.never rfl (pi_range1 (by rfl) T.z_range (pa_cons (pv 3) pa_nil)) (pg_name (i := 5) sc_law_steps.nd rfl (.inr rfl)) (pss_cons
      (ps_set (i := 6) sc_law_steps.nd rfl (Or.inr rfl) (pe_op op_add (pv 5) pe_int))
      (C8.pss_cut
      (ps_if (pt_cmpR op_eq (pv 6) (pv 3) (nomark _)) (pss_one
      (ps_set (i := 6) sc_law_steps.nd rfl (Or.inr rfl) (pv 2))) pss_nil)
      (pss_one
      (ps_expr (pe_bm PySem.F.plainAttrs_list PySem.F.slot_list_append PySem.F.type_list_append mt_append (pv 4) (pa_cons (pe_lc (own := [("j", 9)]) (g := gName 9) (tt := tYes) rfl sc_law_steps.nd (pi_range1 (by rfl) T.z_range (pa_cons (pv 3) pa_nil)) (blkOk_by (N := N_law_steps) (sc := defScope s_law_steps) (by decide +kernel)) (fun _ _ _ _ _ => (pg_name (i := 9) sc_law_steps.nd rfl (Or.inl rfl))) (fun _ _ _ _ _ => pts_nil) (fun _ _ _ _ _ => (pe_and (pe_cmpR op_eq (pv 9) (pv 6) (nomark _)) (pe_one (pe_cmpR op_eq (pe_ix (ix_listK (K := K) rfl) (pv 1) (pv 5) (fun _ _ => rfl)) (pe_ix (ix_tupK (K := K) rfl) (pv 0) pe_int (fun _ _ => rfl)) (nomark _)))))) pa_nil)))))))
      (pss_one
      (ps_ret (pv 4))))) pss_nil)
      (pss_cons
      (ps_if (pt_cmpR op_eq (pe_callB (call_lenK (K := K) rfl) (by rfl) T.z_len PySem.boot_len (pa_cons (pv 0) pa_nil)) pe_int (nomark _)) (pss_one
      (ps_ret (pe_lc (own := [("k", 5)]) (g := gName 5) (tt := tYes) rfl sc_law_steps.nd (pi_range1 (by rfl) T.z_range (pa_cons (pv 3) pa_nil)) (blkOk_by (N := N_law_steps) (sc := defScope s_law_steps) (by decide +kernel)) (fun _ _ _ _ _ => (pg_name (i := 5) sc_law_steps.nd rfl (Or.inl rfl))) (fun _ _ _ _ _ => pts_nil) (fun _ _ _ _ _ => (pe_op op_rep (pe_lst (pa_cons pe_bl pa_nil)) (pv 3)))))) pss_nil)
      (pss_cons
      (ps_set (i := 7) sc_law_steps.nd rfl (Or.inl rfl) (C8.pe_c C_law_steps hr (by omega) (by rfl) (pa_cons (pe_ix (ix_tupK (K := K) rfl) (pv 0) pe_int (fun _ _ => rfl)) (pa_cons (pv 1) (pa_cons (pv 2) pa_nil)))))
      (pss_cons
      (ps_if (pt_cmpR op_eq (pe_ix (ix_tupK (K := K) rfl) (pv 0) pe_int (fun _ _ => rfl)) pe_str (nomark _)) (pss_one
      (ps_ret (C8.pe_c C_law_closed hr (by omega) (by rfl) (pa_cons (pv 7) pa_nil)))) pss_nil)
      (pss_cons
      (ps_set (i := 8) sc_law_steps.nd rfl (Or.inl rfl) (C8.pe_c C_law_steps hr (by omega) (by rfl) (pa_cons (pe_ix (ix_tupK (K := K) rfl) (pv 0) pe_int (fun _ _ => rfl)) (pa_cons (pv 1) (pa_cons (pv 2) pa_nil)))))
      (pss_cons
      (ps_if (pt_cmpR op_eq (pe_ix (ix_tupK (K := K) rfl) (pv 0) pe_int (fun _ _ => rfl)) pe_str (nomark _)) (pss_one
      (ps_ret (C8.pe_c C_law_joined hr (by omega) (by rfl) (pa_cons (pv 7) (pa_cons (pv 8) pa_nil))))) pss_nil)
      (pss_cons
      (ps_set (i := 4) sc_law_steps.nd rfl (Or.inl rfl) (C8.pe_c C_law_composed hr (by omega) (by rfl) (pa_cons (pv 7) (pa_cons (pv 8) pa_nil))))
      (C8.pss_cut
      (ps_if (pt_val (C8.pe_c C_law_nullable hr (by omega) (by rfl) (pa_cons (pe_ix (ix_tupK (K := K) rfl) (pv 0) pe_int (fun _ _ => rfl)) pa_nil))) (pss_one
      (ps_set (i := 4) sc_law_steps.nd rfl (Or.inl rfl) (C8.pe_c C_law_joined hr (by omega) (by rfl) (pa_cons (pv 4) (pa_cons (pv 8) pa_nil))))) pss_nil)
      (C8.pss_cut
      (ps_if (pt_val (C8.pe_c C_law_nullable hr (by omega) (by rfl) (pa_cons (pe_ix (ix_tupK (K := K) rfl) (pv 0) pe_int (fun _ _ => rfl)) pa_nil))) (pss_one
      (ps_set (i := 4) sc_law_steps.nd rfl (Or.inl rfl) (C8.pe_c C_law_joined hr (by omega) (by rfl) (pa_cons (pv 4) (pa_cons (pv 7) pa_nil))))) pss_nil)
      (pss_one
      (ps_ret (pv 4))))))))))))), ?_⟩
    have hll : ((ls.map V.int).length : Int) = (ls.length : Int) := by rw [List.length_map]
    refine ⟨_, rfl, p, _, rfl, .inl (.of hp), ?_⟩
    have zero : ∀ (D : Ends), True := fun _ => True.intro
    cases e with
    | let_ a =>
      obtain ⟨x, rfl, ha⟩ := he
      refine ⟨_, rfl, x, _, _, _, rfl, rfl, ha, rfl, rfl, _, rfl, iteT ?_⟩
      refine ⟨Nat.zero_le _, fun D nD => ?_⟩
      generalize hX : upd H D _ = H0; obtain ⟨sH0, eD⟩ := nw nD hX; clear hX
      refine ⟨_, rfl, _, rfl, by omega, by rw [hll]; omega, ?_⟩
      rw [hll, Int.toNat_natCast]
      refine for_range (lo := 0) (n := ls.length) (fun k σ H' => ∃ (v5 v6 : Option V) (cs : List Addr), σ = [some (.ref x), some (.ref p), some (.int (bk : Nat)), some (.int (ls.length : Nat)), some (.ref D), v5, v6, none, none, none] ∧ Same H H' ∧ H' D = some (.lst (cs.map V.ref)) ∧ cs.length = k ∧ ∀ (j : Nat) (a' : Addr), cs[j]? = some a' → a' ≠ D ∧ H' a' = some (.lst (((List.range ls.length).map fun i => decide (i = Gk.af ls.length bk j) && decide (ls.getD j 0 = a)).map V.bl)))
        ⟨none, none, [], rfl, sH0, eD, rfl, fun j a' h => by (cases h)⟩ ?_ ?_
      · rintro k σ H1 hk ⟨v5, v6, cs, rfl, s1, eD, hcl, hcs⟩
        rw [Int.zero_add]
        refine ⟨_, rfl, _, _, rfl, rfl, ?_⟩
        refine ⟨fun σ' H' => H1 = H' ∧ σ' = [some (.ref x), some (.ref p), some (.int (bk : Nat)), some (.int (ls.length : Nat)), some (.ref D), some (.int (k : Nat)), some (.int (Gk.af ls.length bk k : Nat)), none, none, none], ?_, ?_⟩
        · refine ⟨_, rfl, _, rfl, rfl, _, rfl, ite_eq (fun c => ⟨_, rfl, rfl, ?_⟩) (fun c => ⟨rfl, ?_⟩)⟩
          · rw [Gk.af, if_pos (by omega)]; rfl
          · rw [Gk.af, if_neg (by omega)]; rfl
        · rintro σ' H' ⟨rfl, rfl⟩
          refine ⟨_, rfl, .inl ⟨rfl, _, .of eD⟩, _, rfl, _, rfl, by omega, by omega, fun E nE => ?_⟩
          rw [Int.toNat_natCast]
          refine lc_range (lo := 0) (n := ls.length) (fun j H' => Same H1 H' ∧ H' E = some (.lst (((List.range j).map fun i => decide (i = Gk.af ls.length bk k) && decide (ls.getD k 0 = a)).map V.bl)))
            ⟨same_new nE, upd_same⟩ ?_ ?_
          · rintro j H2 hj ⟨s2, eE⟩
            rw [Int.zero_add]
            have s02 := s1.trans s2
            have hlen : (((List.range j).map fun i => decide (i = Gk.af ls.length bk k) && decide (ls.getD k 0 = a)).map V.bl).length < sizeLine := by
              rw [List.length_map, List.length_map, List.length_range]
              exact Nat.lt_of_le_of_lt (show j ≤ 100 by omega) (by decide)
            have fin : ∀ r : Bool, (decide (j = Gk.af ls.length bk k) && decide (ls.getD k 0 = a)) = r → Same H1 (upd H2 E (.lst ((((List.range j).map fun i => decide (i = Gk.af ls.length bk k) && decide (ls.getD k 0 = a)).map V.bl) ++ [V.bl r]))) ∧ upd H2 E (.lst ((((List.range j).map fun i => decide (i = Gk.af ls.length bk k) && decide (ls.getD k 0 = a)).map V.bl) ++ [V.bl r])) E = some (.lst (((List.range (j + 1)).map fun i => decide (i = Gk.af ls.length bk k) && decide (ls.getD k 0 = a)).map V.bl)) := fun r hr => by
              refine ⟨fun c o hc => ?_, ?_⟩
              · rw [upd_ne (ne_of_none hc nE)]; exact s2 _ _ hc
              · rw [upd_same, List.range_succ, List.map_append, List.map_append, ← hr]; rfl
            refine ⟨rfl, _, rfl, _, rfl, rfl, _, rfl, ite_eq (fun c => ?_) (fun c => ?_)⟩
            · refine ⟨_, rfl, _, rfl, p, _, _, _, rfl, rfl, .of (s02 _ _ hp), atI_nat (by rw [List.getElem?_map, List.getElem?_eq_getElem hk]; rfl), _, rfl, x, _, _, _, rfl, rfl, sqt_tk (TK.of s02) ha, rfl, rfl, _, eE, hlen, fin _ ?_⟩
              rw [dec_int, decide_eq_true (show j = Gk.af ls.length bk k by omega), Bool.true_and, List.getD_eq_getElem?_getD, List.getElem?_eq_getElem hk]
              rfl
            · refine ⟨_, eE, hlen, fin _ ?_⟩
              rw [decide_eq_false (show ¬ j = Gk.af ls.length bk k by omega), Bool.false_and]
          · rintro H2 ⟨s2, eE⟩
            have nED : E ≠ D := fun z => by rw [z, eD] at nE; cases nE
            refine ⟨D, _, _, rfl, rfl, s2 _ _ eD, by rw [List.length_map, hcl]; exact Nat.lt_of_le_of_lt (show k ≤ 100 by omega) (by decide), _, _, cs ++ [E], rfl, fun c o hc => ?_, by rw [upd_same, List.map_append]; rfl, by rw [List.length_append, hcl]; rfl, fun j a' hj => ?_⟩
            · rw [upd_ne (ne_of_none hc nD)]
              exact s2 _ _ (s1 _ _ hc)
            · rcases snocg hj with ⟨_, h⟩ | ⟨h1, h2⟩
              · obtain ⟨n1, h3⟩ := hcs j a' h
                exact ⟨n1, by rw [upd_ne n1]; exact s2 _ _ h3⟩
              · subst h2
                rw [h1, hcl]
                exact ⟨nED, by rw [upd_ne nED]; exact eE⟩
      · rintro σ H1 ⟨v5, v6, cs, rfl, s1, eD, hcl, hcs⟩
        refine ⟨_, rfl, q H1 D s1 ⟨cs, eD, by rw [hcl]; exact (tab_sq ls.length _).len.symm, fun i a' h => ?_⟩⟩
        have hi : i < ls.length := by rw [← hcl]; exact lt_of_get h
        rw [(hcs i a' h).2]
        show _ = some (HO.lst (((tab ls.length _).getD i []).map V.bl))
        rw [tab_row hi]
    | none =>
      obtain ⟨x, rfl, ha⟩ := he
      refine ⟨_, rfl, x, _, _, _, rfl, rfl, ha, rfl, rfl, _, rfl, iteF ?_⟩
      refine ⟨_, rfl, x, _, rfl, .inr ha, rfl, _, rfl, iteT ?_⟩
      refine ⟨_, rfl, _, rfl, by omega, by rw [hll]; omega, fun D nD => ?_⟩
      rw [hll, Int.toNat_natCast]
      refine lc_range (lo := 0) (n := ls.length) (fun k H' => ∃ cs : List Addr, Same H H' ∧ H' D = some (.lst (cs.map V.ref)) ∧ cs.length = k ∧ ∀ (j : Nat) (a' : Addr), cs[j]? = some a' → a' ≠ D ∧ H' a' = some (.lst (((List.range ls.length).map fun _ => false).map V.bl)))
        ⟨[], same_new nD, upd_same, rfl, fun j a' h => by (cases h)⟩ ?_ ?_
      · rintro k H1 hk ⟨cs, s1, eD, hcl, hcs⟩
        rw [Int.zero_add]
        refine ⟨rfl, by show 1 ≤ sizeLine; decide, fun l nl => ?_⟩
        generalize hX : upd H1 l _ = H2; obtain ⟨sH2, el⟩ := nw nl hX; clear hX
        refine ⟨_, rfl, l, _, _, rfl, rfl, el, by omega, by omega, ?_, fun E nE => ?_⟩
        · rw [Int.toNat_natCast]
          show 1 * ls.length ≤ 16777216
          omega
        rw [Int.toNat_natCast, show (List.replicate ls.length [V.bl false]).flatten = (List.replicate ls.length false).map V.bl by simp, row_false]
        generalize hX : upd H2 E _ = H3; obtain ⟨sH3, eE⟩ := nw nE hX; clear hX
        have nED : E ≠ D := fun z => by rw [z, sH2 _ _ eD] at nE; cases nE
        refine ⟨_, sH3 _ _ (sH2 _ _ eD), by rw [List.length_map, hcl]; exact Nat.lt_of_le_of_lt (show k ≤ 100 by omega) (by decide), cs ++ [E], fun c o hc => ?_, by rw [upd_same, List.map_append]; rfl, by rw [List.length_append, hcl]; rfl, fun j a' hj => ?_⟩
        · rw [upd_ne (ne_of_none hc nD)]
          exact sH3 _ _ (sH2 _ _ (s1 _ _ hc))
        · rcases snocg hj with ⟨_, h⟩ | ⟨h1, h2⟩
          · obtain ⟨n1, h3⟩ := hcs j a' h
            exact ⟨n1, by rw [upd_ne n1]; exact sH3 _ _ (sH2 _ _ h3)⟩
          · subst h2
            exact ⟨nED, by rw [upd_ne nED]; exact eE⟩
      · rintro H1 ⟨cs, s1, eD, hcl, hcs⟩
        refine q H1 D s1 ⟨cs, eD, by rw [hcl]; exact (tab_sq ls.length _).len.symm, fun i a' h => ?_⟩
        have hi : i < ls.length := by rw [← hcl]; exact lt_of_get h
        rw [(hcs i a' h).2]
        show _ = some (HO.lst (((tab ls.length _).getD i []).map V.bl))
        rw [tab_row hi]
    | empty =>
      obtain ⟨x, rfl, ha⟩ := he
      refine ⟨_, rfl, x, _, _, _, rfl, rfl, ha, rfl, rfl, _, rfl, iteF ?_⟩
      refine ⟨_, rfl, x, _, rfl, .inr ha, rfl, _, rfl, iteT ?_⟩
      refine ⟨_, rfl, _, rfl, by omega, by rw [hll]; omega, fun D nD => ?_⟩
      rw [hll, Int.toNat_natCast]
      refine lc_range (lo := 0) (n := ls.length) (fun k H' => ∃ cs : List Addr, Same H H' ∧ H' D = some (.lst (cs.map V.ref)) ∧ cs.length = k ∧ ∀ (j : Nat) (a' : Addr), cs[j]? = some a' → a' ≠ D ∧ H' a' = some (.lst (((List.range ls.length).map fun _ => false).map V.bl)))
        ⟨[], same_new nD, upd_same, rfl, fun j a' h => by (cases h)⟩ ?_ ?_
      · rintro k H1 hk ⟨cs, s1, eD, hcl, hcs⟩
        rw [Int.zero_add]
        refine ⟨rfl, by show 1 ≤ sizeLine; decide, fun l nl => ?_⟩
        generalize hX : upd H1 l _ = H2; obtain ⟨sH2, el⟩ := nw nl hX; clear hX
        refine ⟨_, rfl, l, _, _, rfl, rfl, el, by omega, by omega, ?_, fun E nE => ?_⟩
        · rw [Int.toNat_natCast]
          show 1 * ls.length ≤ 16777216
          omega
        rw [Int.toNat_natCast, show (List.replicate ls.length [V.bl false]).flatten = (List.replicate ls.length false).map V.bl by simp, row_false]
        generalize hX : upd H2 E _ = H3; obtain ⟨sH3, eE⟩ := nw nE hX; clear hX
        have nED : E ≠ D := fun z => by rw [z, sH2 _ _ eD] at nE; cases nE
        refine ⟨_, sH3 _ _ (sH2 _ _ eD), by rw [List.length_map, hcl]; exact Nat.lt_of_le_of_lt (show k ≤ 100 by omega) (by decide), cs ++ [E], fun c o hc => ?_, by rw [upd_same, List.map_append]; rfl, by rw [List.length_append, hcl]; rfl, fun j a' hj => ?_⟩
        · rw [upd_ne (ne_of_none hc nD)]
          exact sH3 _ _ (sH2 _ _ (s1 _ _ hc))
        · rcases snocg hj with ⟨_, h⟩ | ⟨h1, h2⟩
          · obtain ⟨n1, h3⟩ := hcs j a' h
            exact ⟨n1, by rw [upd_ne n1]; exact sH3 _ _ (sH2 _ _ h3)⟩
          · subst h2
            exact ⟨nED, by rw [upd_ne nED]; exact eE⟩
      · rintro H1 ⟨cs, s1, eD, hcl, hcs⟩
        refine q H1 D s1 ⟨cs, eD, by rw [hcl]; exact (tab_sq ls.length _).len.symm, fun i a' h => ?_⟩
        have hi : i < ls.length := by rw [← hcl]; exact lt_of_get h
        rw [(hcs i a' h).2]
        show _ = some (HO.lst (((tab ls.length _).getD i []).map V.bl))
        rw [tab_row hi]
    | star e =>
      obtain ⟨x, v1, rfl, ha, hv⟩ := he
      obtain ⟨n', rfl⟩ : ∃ n', n = n' + 1 := by
        cases n with
        | zero => exact absurd hd (by show ¬ dep e + 1 ≤ 0; omega)
        | succ n' => exact ⟨n', rfl⟩
      have hd : dep e + 1 ≤ n' + 1 := hd
      refine ⟨_, rfl, x, _, _, _, rfl, rfl, ha, rfl, rfl, _, rfl, iteF ?_⟩
      refine ⟨_, rfl, x, _, rfl, .inr ha, rfl, _, rfl, iteF ?_⟩
      refine ⟨_, rfl, x, _, _, _, rfl, rfl, ha, rfl, _, rfl, _, rfl, v1, p, bk, e, ls, rfl, hv, hp, hl, hbk, by omega, fun H1 l s1 hl1 => ?_⟩
      refine ⟨_, rfl, x, _, _, _, rfl, rfl, sqt_tk (TK.of s1) ha, rfl, rfl, _, rfl, iteT ?_⟩
      exact ⟨_, rfl, l, _, ls.length, rfl, hl1, sm_sq e, hl, fun H2 r s2 hr => q H2 r (s1.trans s2) hr⟩
    | alt e f =>
      obtain ⟨x, v1, v2, rfl, ha, hv, hw⟩ := he
      obtain ⟨n', rfl⟩ : ∃ n', n = n' + 1 := by
        cases n with
        | zero => exact absurd hd (by show ¬ max (dep e) (dep f) + 1 ≤ 0; omega)
        | succ n' => exact ⟨n', rfl⟩
      have hd : max (dep e) (dep f) + 1 ≤ n' + 1 := hd
      refine ⟨_, rfl, x, _, _, _, rfl, rfl, ha, rfl, rfl, _, rfl, iteF ?_⟩
      refine ⟨_, rfl, x, _, rfl, .inr ha, rfl, _, rfl, iteF ?_⟩
      refine ⟨_, rfl, x, _, _, _, rfl, rfl, ha, rfl, _, rfl, _, rfl, v1, p, bk, e, ls, rfl, hv, hp, hl, hbk, by omega, fun H1 l s1 hl1 => ?_⟩
      have ha1 := sqt_tk (TK.of s1) ha
      refine ⟨_, rfl, x, _, _, _, rfl, rfl, ha1, rfl, rfl, _, rfl, iteF ?_⟩
      refine ⟨_, rfl, x, _, _, _, rfl, rfl, ha1, rfl, _, rfl, _, rfl, v2, p, bk, f, ls, rfl, hw.same s1, s1 _ _ hp, hl, hbk, by omega, fun H2 r s2 hr2 => ?_⟩
      refine ⟨_, rfl, x, _, _, _, rfl, rfl, sqt_tk (TK.of s2) ha1, rfl, rfl, _, rfl, iteT ?_⟩
      exact ⟨_, rfl, _, rfl, l, r, _, _, ls.length, rfl, hl1.same s2, hr2, sm_sq e, sm_sq f, hl, fun H3 g s3 hg => q H3 g ((s1.trans s2).trans s3) hg⟩
    | join e f =>
      obtain ⟨x, v1, v2, rfl, ha, hv, hw⟩ := he
      obtain ⟨n', rfl⟩ : ∃ n', n = n' + 1 := by
        cases n with
        | zero => exact absurd hd (by show ¬ max (dep e) (dep f) + 1 ≤ 0; omega)
        | succ n' => exact ⟨n', rfl⟩
      have hd : max (dep e) (dep f) + 1 ≤ n' + 1 := hd
      refine ⟨_, rfl, x, _, _, _, rfl, rfl, ha, rfl, rfl, _, rfl, iteF ?_⟩
      refine ⟨_, rfl, x, _, rfl, .inr ha, rfl, _, rfl, iteF ?_⟩
      refine ⟨_, rfl, x, _, _, _, rfl, rfl, ha, rfl, _, rfl, _, rfl, v1, p, bk, e, ls, rfl, hv, hp, hl, hbk, by omega, fun H1 l s1 hl1 => ?_⟩
      have ha1 := sqt_tk (TK.of s1) ha
      refine ⟨_, rfl, x, _, _, _, rfl, rfl, ha1, rfl, rfl, _, rfl, iteF ?_⟩
      refine ⟨_, rfl, x, _, _, _, rfl, rfl, ha1, rfl, _, rfl, _, rfl, v2, p, bk, f, ls, rfl, hw.same s1, s1 _ _ hp, hl, hbk, by omega, fun H2 r s2 hr2 => ?_⟩
      have ha2 := sqt_tk (TK.of s2) ha1
      have hl2 := hl1.same s2
      have s02 := s1.trans s2
      refine ⟨_, rfl, x, _, _, _, rfl, rfl, ha2, rfl, rfl, _, rfl, iteF ?_⟩
      refine ⟨_, rfl, _, rfl, l, r, _, _, ls.length, rfl, hl2, hr2, sm_sq e, sm_sq f, hl, fun H3 g s3 hg => ?_⟩
      have s03 := s02.trans s3
      have ha3 := sqt_tk (TK.of s3) ha2
      refine ⟨fun σ' H' => ∃ g : Addr, σ' = [some (.ref x), some (.ref p), some (.int (bk : Nat)), some (.int ((ls.map V.int).length : Int)), some (.ref g), none, none, some (.ref l), some (.ref r), none] ∧ Same H3 H' ∧ MxAt H' g (if nul e = true then jn ls.length (cm ls.length (sm ls bk e) (sm ls bk f)) (sm ls bk f) else cm ls.length (sm ls bk e) (sm ls bk f)), ?_, ?_⟩
      · refine ⟨_, rfl, x, _, _, _, rfl, rfl, ha3, rfl, v1, e, rfl, hv.same s03, by omega, fun H4 s4 => ⟨nul e, rfl, ?_⟩⟩
        cases hn : nul e with
        | false => exact iteB_f rfl ⟨g, rfl, s4, hg.same s4⟩
        | true => exact iteB_t rfl ⟨_, rfl, _, rfl, g, r, _, _, ls.length, rfl, hg.same s4, (hr2.same s3).same s4, tab_sq _ _, sm_sq f, hl, fun H5 g' s5 hg' => ⟨g', rfl, s4.trans s5, hg'⟩⟩
      rintro σ' H4 ⟨g1, rfl, s4, hg1⟩
      have s04 := s03.trans s4
      have ha4 := sqt_tk (TK.of s4) ha3
      have sq1 : Sq ls.length (if nul e = true then jn ls.length (cm ls.length (sm ls bk e) (sm ls bk f)) (sm ls bk f) else cm ls.length (sm ls bk e) (sm ls bk f)) := by split <;> exact tab_sq _ _
      refine ⟨fun σ' H' => ∃ g : Addr, σ' = [some (.ref x), some (.ref p), some (.int (bk : Nat)), some (.int ((ls.map V.int).length : Int)), some (.ref g), none, none, some (.ref l), some (.ref r), none] ∧ Same H4 H' ∧ MxAt H' g (sm ls bk (.join e f)), ?_, ?_⟩
      · refine ⟨_, rfl, x, _, _, _, rfl, rfl, ha4, rfl, v2, f, rfl, hw.same s04, by omega, fun H5 s5 => ⟨nul f, rfl, ?_⟩⟩
        have er : sm ls bk (.join e f) = if nul f = true then jn ls.length (if nul e = true then jn ls.length (cm ls.length (sm ls bk e) (sm ls bk f)) (sm ls bk f) else cm ls.length (sm ls bk e) (sm ls bk f)) (sm ls bk e) else (if nul e = true then jn ls.length (cm ls.length (sm ls bk e) (sm ls bk f)) (sm ls bk f) else cm ls.length (sm ls bk e) (sm ls bk f)) := rfl
        rw [er]
        cases hn : nul f with
        | false => exact iteB_f rfl ⟨g1, rfl, s5, by rw [if_neg Bool.false_ne_true]; exact hg1.same s5⟩
        | true => exact iteB_t rfl ⟨_, rfl, _, rfl, g1, l, _, _, ls.length, rfl, hg1.same s5, ((hl2.same s3).same s4).same s5, sq1, sm_sq e, hl, fun H6 g' s6 hg' => ⟨g', rfl, s5.trans s6, by rw [if_pos rfl]; exact hg'⟩⟩
      rintro σ' H5 ⟨g2, rfl, s5, hg2⟩
      exact ⟨_, rfl, q H5 g2 (s04.trans s5) hg2⟩
theorem cal_ste (T : Txt K mg) : ∀ n, C8.Cal P w K mg base (3 + n) "_law_steps" (spSte K n) []
  | 0 => by
    obtain ⟨f, fd, F, hm, hb⟩ := T.h_law_steps
    exact ⟨f, fd, _, [], ⟨fun vs H Q E h => h.elim, fun A outer s H args us vs Q E _ _ _ _ h => h.elim⟩, hm, F.kp, hb, .nil⟩
  | n + 1 => cal_ste_step T (cal_ste T n)
open Gk (Ex Lg nul np fs la fo)
def spMade (K : PySem.W.Frag) : Nat → Sp
  | 0 => fun _ _ _ _ => False
  | n + 1 => fun vs H Q _ => ∃ (d : Addr) (v : V) (e : Ex) (L : Int), vs = [.ref d, v] ∧ Drw H d ∧ ExAt K H v e ∧ Lt L e ∧ dep e ≤ n ∧
    ∀ (H' : Hp) (r : Addr) (zs : List Int), Kp d H H' → Drw H' d → H' r = some (.lst (zs.map V.int)) → (∀ z ∈ zs, 0 ≤ z ∧ z < L) → zs.length ≤ 2 ^ n → r ≠ d → Q (.ref r) H'
theorem drw_ne {d p : Addr} {H : Hp} (hd : Drw H d) (h : H p = none) : p ≠ d := fun z => by
  obtain ⟨y, hy⟩ := hd
  rw [z, hy] at h
  cases h
theorem sqt_kp {d : Addr} {H H' : Hp} {x : Addr} {xs : List V} (k : Kp d H H') (hd : Drw H d) (h : SqT K H x xs) : SqT K H' x xs := by
  obtain ⟨ds, hd⟩ := hd
  exact sqt_tk (TK.kp k hd (by intro _ z; cases z) (by intro _ _ z; cases z)) h
theorem cal_made_step {n : Nat} (hn : n ≤ 8) (T : Txt K mg) (C_law_made : C8.Cal P w K mg base (1 + n) "_law_made" (spMade K n) []) : C8.Cal P w K mg base (1 + n + 1) "_law_made" (spMade K (n + 1)) [] := by
  have C_law_take : C8.Cal P w K mg base 1 "_law_take" spTake [] := cal_take T
  obtain ⟨f, fd, F, hm, hb⟩ := T.h_law_made
  refine ⟨f, fd, _, [], F.ok sc_law_made (fun vs H Q E h => ?_) (fun cdv A outer s H vs Q E hr h => ?_), hm, F.kp, hb, .nil⟩
  · obtain ⟨d, v, e, L, rfl, _⟩ := h
    rfl
  · obtain ⟨d, v, e, L, rfl, hd, he, hL, hde, q⟩ := h
    refine ⟨_, (pss_cons
      (ps_if (pt_cmpR op_eq (pe_ix (ix_tupK (K := K) rfl) (pv 1) pe_int (fun _ _ => rfl)) pe_str (nomark _)) (pss_one
      (ps_ret (pe_lst (pa_cons (pe_ix (ix_tupK (K := K) rfl) (pv 1) pe_int (fun _ _ => rfl)) pa_nil)))) pss_nil)
      (pss_cons
      (ps_if (pt_cmpR op_eq (pe_callB (call_lenK (K := K) rfl) (by rfl) T.z_len PySem.boot_len (pa_cons (pv 1) pa_nil)) pe_int (nomark _)) (pss_one
      (ps_ret (pe_lst pa_nil))) pss_nil)
      (pss_cons
      (ps_if (pt_cmpR op_eq (pe_ix (ix_tupK (K := K) rfl) (pv 1) pe_int (fun _ _ => rfl)) pe_str (nomark _)) (pss_cons
      (ps_set (i := 2) sc_law_made.nd rfl (Or.inl rfl) (pe_lst pa_nil))
      (pss_cons
      (ps_for PassesOwn.never rfl (pi_range1 (by rfl) T.z_range (pa_cons (C8.pe_c C_law_take hr (by omega) (by rfl) (pa_cons (pv 0) (pa_cons pe_int pa_nil))) pa_nil)) (pg_name (i := 3) sc_law_made.nd rfl (.inl rfl)) (pss_one
      (ps_set (i := 2) sc_law_made.nd rfl (Or.inl rfl) (pe_op op_cat (pv 2) (C8.pe_c C_law_made hr (by omega) (by rfl) (pa_cons (pv 0) (pa_cons (pe_ix (ix_tupK (K := K) rfl) (pv 1) pe_int (fun _ _ => rfl)) pa_nil)))))))
      (pss_one
      (ps_ret (pv 2))))) pss_nil)
      (pss_cons
      (ps_if (pt_cmpR op_eq (pe_ix (ix_tupK (K := K) rfl) (pv 1) pe_int (fun _ _ => rfl)) pe_str (nomark _)) (pss_one
      (ps_ret (C8.pe_c C_law_made hr (by omega) (by rfl) (pa_cons (pv 0) (pa_cons (pe_ix (ix_tupK (K := K) rfl) (pv 1) (pe_op op_add pe_int (C8.pe_c C_law_take hr (by omega) (by rfl) (pa_cons (pv 0) (pa_cons pe_int pa_nil)))) (fun _ _ => rfl)) pa_nil))))) pss_nil)
      (pss_one
      (ps_ret (pe_op op_cat (C8.pe_c C_law_made hr (by omega) (by rfl) (pa_cons (pv 0) (pa_cons (pe_ix (ix_tupK (K := K) rfl) (pv 1) pe_int (fun _ _ => rfl)) pa_nil))) (C8.pe_c C_law_made hr (by omega) (by rfl) (pa_cons (pv 0) (pa_cons (pe_ix (ix_tupK (K := K) rfl) (pv 1) pe_int (fun _ _ => rfl)) pa_nil)))))))))), ?_⟩
    have p1 : 1 ≤ 2 ^ n := Nat.one_le_two_pow
    have p2 : 2 ^ n ≤ 256 := Nat.pow_le_pow_right (by decide) hn
    cases e with
    | none =>
      obtain ⟨x, rfl, ha⟩ := he
      refine ⟨_, rfl, x, _, _, _, rfl, rfl, ha, rfl, rfl, _, rfl, iteF ?_⟩
      refine ⟨_, rfl, x, _, rfl, .inr ha, rfl, _, rfl, iteT ?_⟩
      refine ⟨Nat.zero_le _, fun p np' => ?_⟩
      exact q _ _ [] (Kp.new np') (hd.new np') upd_same (fun z hz => by cases hz) (Nat.zero_le _) (drw_ne hd np')
    | empty =>
      obtain ⟨x, rfl, ha⟩ := he
      refine ⟨_, rfl, x, _, _, _, rfl, rfl, ha, rfl, rfl, _, rfl, iteF ?_⟩
      refine ⟨_, rfl, x, _, rfl, .inr ha, rfl, _, rfl, iteT ?_⟩
      refine ⟨Nat.zero_le _, fun p np' => ?_⟩
      exact q _ _ [] (Kp.new np') (hd.new np') upd_same (fun z hz => by cases hz) (Nat.zero_le _) (drw_ne hd np')
    | let_ a =>
      obtain ⟨x, rfl, ha⟩ := he
      refine ⟨_, rfl, x, _, _, _, rfl, rfl, ha, rfl, rfl, _, rfl, iteT ?_⟩
      refine ⟨_, rfl, x, _, _, _, rfl, rfl, ha, rfl, by show 1 ≤ sizeLine; decide, fun p np' => ?_⟩
      exact q _ _ [a] (Kp.new np') (hd.new np') upd_same (fun z hz => by rw [List.mem_singleton.mp hz]; exact hL a List.mem_cons_self) p1 (drw_ne hd np')
    | star e =>
      obtain ⟨x, v1, rfl, ha, hv⟩ := he
      obtain ⟨n', rfl⟩ : ∃ n', n = n' + 1 := by
        cases n with
        | zero => exact absurd hde (by show ¬ dep e + 1 ≤ 0; omega)
        | succ n' => exact ⟨n', rfl⟩
      have hde : dep e + 1 ≤ n' + 1 := hde
      have pw : 2 ^ (n' + 1) = 2 ^ n' + 2 ^ n' := by rw [Nat.pow_succ]; omega
      refine ⟨_, rfl, x, _, _, _, rfl, rfl, ha, rfl, rfl, _, rfl, iteF ?_⟩
      refine ⟨_, rfl, x, _, rfl, .inr ha, rfl, _, rfl, iteF ?_⟩
      refine ⟨_, rfl, x, _, _, _, rfl, rfl, ha, rfl, rfl, _, rfl, iteT ?_⟩
      refine ⟨Nat.zero_le _, fun g ng => ?_⟩
      have k1 : Kp d H (upd H g (.lst [])) := Kp.new ng
      have d1 := hd.new (o := .lst []) ng
      generalize hX : upd H g _ = H1; obtain ⟨sH1, eg⟩ := nw ng hX; clear hX
      have ngd : g ≠ d := drw_ne hd ng
      refine ⟨_, rfl, d, 3, rfl, hd.same sH1, by decide, fun r ds r0 r1 => ?_⟩
      have k2 : Kp d H1 (upd H1 d (.lst (ds.map V.int))) := Kp.own
      have d2 : Drw (upd H1 d (.lst (ds.map V.int))) d := Drw.own
      have eg2 : upd H1 d (.lst (ds.map V.int)) g = some (.lst []) := by rw [upd_ne ngd]; exact eg
      have k02 := (Same.kp (d := d) sH1).trans k2
      have ha2 := sqt_kp k02 hd ha
      have hv2 := ex_kp k02 hd hv
      generalize upd H1 d (.lst (ds.map V.int)) = H2 at k02 d2 eg2 ha2 hv2 ⊢
      refine ⟨_, rfl, by omega, by omega, ?_⟩
      refine for_range (lo := 0) (n := r.toNat) (fun k σ H' => ∃ (g : Addr) (v3 : Option V) (zs : List Int), σ = [some (.ref d), some (.ref x), some (.ref g), v3] ∧ Kp d H2 H' ∧ Drw H' d ∧ H' g = some (.lst (zs.map V.int)) ∧ (∀ z ∈ zs, 0 ≤ z ∧ z < L) ∧ zs.length ≤ k * 2 ^ n' ∧ g ≠ d)
        ⟨g, none, [], rfl, Kp.refl _ _, d2, eg2, fun z hz => by (cases hz), Nat.zero_le _, ngd⟩ ?_ ?_
      · rintro k σ H3 hk ⟨g, v3, zs, rfl, k3, d3, eg3, hz3, hl3, hne3⟩
        rw [Int.zero_add]
        have hk2 : k < 2 := by omega
        have hb : k * 2 ^ n' ≤ 1 * 2 ^ n' := Nat.mul_le_mul_right _ (by omega)
        refine ⟨_, rfl, _, rfl, _, rfl, x, _, _, _, rfl, rfl, sqt_kp k3 d2 ha2, rfl, d, v1, e, L, rfl, d3, ex_kp k3 d2 hv2, hL, by omega, fun H4 r4 zs4 k4 d4 hr4 hz4 hl4 hne4 => ?_⟩
        refine ⟨g, r4, _, _, rfl, rfl, k4 _ _ hne3 eg3, hr4, by rw [List.length_map, List.length_map]; exact Nat.le_trans (show _ ≤ 512 by omega) (by decide), fun p np' => ?_⟩
        exact ⟨p, _, zs ++ zs4, rfl, (k3.trans k4).trans (Kp.new np'), d4.new np', by rw [upd_same, List.map_append], fun z hz => (List.mem_append.mp hz).elim (hz3 z) (hz4 z), by rw [List.length_append, Nat.succ_mul]; omega, drw_ne d4 np'⟩
      · rintro σ H3 ⟨g, v3, zs, rfl, k3, d3, eg3, hz3, hl3, hne3⟩
        have hr3 : r.toNat ≤ 2 := by omega
        have hb : r.toNat * 2 ^ n' ≤ 2 * 2 ^ n' := Nat.mul_le_mul_right _ hr3
        exact ⟨_, rfl, q _ g zs (k02.trans k3) d3 eg3 hz3 (by omega) hne3⟩
    | alt e f =>
      obtain ⟨x, v1, v2, rfl, ha, hv, hw⟩ := he
      obtain ⟨n', rfl⟩ : ∃ n', n = n' + 1 := by
        cases n with
        | zero => exact absurd hde (by show ¬ max (dep e) (dep f) + 1 ≤ 0; omega)
        | succ n' => exact ⟨n', rfl⟩
      have hde : max (dep e) (dep f) + 1 ≤ n' + 1 := hde
      have pw : 2 ^ (n' + 1) = 2 ^ n' + 2 ^ n' := by rw [Nat.pow_succ]; omega
      have hLe : Lt L e := fun z hz => hL z (List.mem_append.mpr (.inl hz))
      have hLf : Lt L f := fun z hz => hL z (List.mem_append.mpr (.inr hz))
      refine ⟨_, rfl, x, _, _, _, rfl, rfl, ha, rfl, rfl, _, rfl, iteF ?_⟩
      refine ⟨_, rfl, x, _, rfl, .inr ha, rfl, _, rfl, iteF ?_⟩
      refine ⟨_, rfl, x, _, _, _, rfl, rfl, ha, rfl, rfl, _, rfl, iteF ?_⟩
      refine ⟨_, rfl, x, _, _, _, rfl, rfl, ha, rfl, rfl, _, rfl, iteT ?_⟩
      refine ⟨_, rfl, _, rfl, _, rfl, d, 2, rfl, hd, by decide, fun r ds r0 r1 => ?_⟩
      have k1 : Kp d H (upd H d (.lst (ds.map V.int))) := Kp.own
      have d1 : Drw (upd H d (.lst (ds.map V.int))) d := Drw.own
      have ha1 := sqt_kp k1 hd ha
      generalize upd H d (.lst (ds.map V.int)) = H1 at k1 d1 ha1 ⊢
      have hr2 : r = 0 ∨ r = 1 := by omega
      rcases hr2 with rfl | rfl
      · refine ⟨_, _, rfl, rfl, x, _, _, _, rfl, rfl, ha1, rfl, d, v1, e, L, rfl, d1, ex_kp k1 hd hv, hLe, by omega, fun H2 r zs k2 d2 hr hz hl hne => ?_⟩
        exact q H2 r zs (k1.trans k2) d2 hr hz (by omega) hne
      · refine ⟨_, _, rfl, rfl, x, _, _, _, rfl, rfl, ha1, rfl, d, v2, f, L, rfl, d1, ex_kp k1 hd hw, hLf, by omega, fun H2 r zs k2 d2 hr hz hl hne => ?_⟩
        exact q H2 r zs (k1.trans k2) d2 hr hz (by omega) hne
    | join e f =>
      obtain ⟨x, v1, v2, rfl, ha, hv, hw⟩ := he
      obtain ⟨n', rfl⟩ : ∃ n', n = n' + 1 := by
        cases n with
        | zero => exact absurd hde (by show ¬ max (dep e) (dep f) + 1 ≤ 0; omega)
        | succ n' => exact ⟨n', rfl⟩
      have hde : max (dep e) (dep f) + 1 ≤ n' + 1 := hde
      have pw : 2 ^ (n' + 1) = 2 ^ n' + 2 ^ n' := by rw [Nat.pow_succ]; omega
      have hLe : Lt L e := fun z hz => hL z (List.mem_append.mpr (.inl hz))
      have hLf : Lt L f := fun z hz => hL z (List.mem_append.mpr (.inr hz))
      refine ⟨_, rfl, x, _, _, _, rfl, rfl, ha, rfl, rfl, _, rfl, iteF ?_⟩
      refine ⟨_, rfl, x, _, rfl, .inr ha, rfl, _, rfl, iteF ?_⟩
      refine ⟨_, rfl, x, _, _, _, rfl, rfl, ha, rfl, rfl, _, rfl, iteF ?_⟩
      refine ⟨_, rfl, x, _, _, _, rfl, rfl, ha, rfl, rfl, _, rfl, iteF ?_⟩
      refine ⟨_, rfl, _, rfl, x, _, _, _, rfl, rfl, ha, rfl, d, v1, e, L, rfl, hd, hv, hLe, by omega, fun H1 r zs k1 d1 hr1 hz1 hl1 hne1 => ?_⟩
      have ha1 := sqt_kp k1 hd ha
      refine ⟨_, rfl, _, rfl, x, _, _, _, rfl, rfl, ha1, rfl, d, v2, f, L, rfl, d1, ex_kp k1 hd hw, hLf, by omega, fun H2 r2 zs2 k2 d2 hr2 hz2 hl2 hne2 => ?_⟩
      refine ⟨r, r2, _, _, rfl, rfl, k2 _ _ hne1 hr1, hr2, by rw [List.length_map, List.length_map]; exact Nat.le_trans (show _ ≤ 512 by omega) (by decide), fun p np' => ?_⟩
      exact q _ p (zs ++ zs2) ((k1.trans k2).trans (Kp.new np')) (d2.new np') (by rw [upd_same, List.map_append]) (fun z hz => (List.mem_append.mp hz).elim (hz1 z) (hz2 z)) (by rw [List.length_append]; omega) (drw_ne d2 np')
theorem cal_made (T : Txt K mg) : ∀ n, n ≤ 8 → C8.Cal P w K mg base (1 + n) "_law_made" (spMade K n) []
  | 0, _ => by
    obtain ⟨f, fd, F, hm, hb⟩ := T.h_law_made
    exact ⟨f, fd, _, [], ⟨fun vs H Q E h => h.elim, fun A outer s H args us vs Q E _ _ _ _ h => h.elim⟩, hm, F.kp, hb, .nil⟩
  | n + 1, h => cal_made_step (by omega) T (cal_made T n (by omega))
open Gk (Ex Lg nul np fs la fo)
theorem lg_mem {e : Ex} {w : List Int} (h : Lg e w) : ∀ z ∈ w, z ∈ Gk.lt e := by
  induction h with
  | empty => intro z hz; cases hz
  | let_ a => intro z hz; exact hz
  | star0 e => intro z hz; cases hz
  | starS _ _ i1 i2 => intro z hz; exact (List.mem_append.mp hz).elim (i1 z) (i2 z)
  | join _ _ i1 i2 => intro z hz; exact List.mem_append.mpr ((List.mem_append.mp hz).elim (fun h => .inl (i1 z h)) (fun h => .inr (i2 z h)))
  | altL _ i => intro z hz; exact List.mem_append.mpr (.inl (i z hz))
  | altR _ i => intro z hz; exact List.mem_append.mpr (.inr (i z hz))
theorem pl_min {n : Nat} : ∀ (m j : Nat), j ≤ n → Gk.pl (n + 1) n j m = min (j + m) n
  | 0, j, h => by show j = _; omega
  | m + 1, j, h => by
    show Gk.pl (n + 1) n (Gk.af (n + 1) n j) m = _
    unfold Gk.af
    split
    · rw [pl_min m n (Nat.le_refl _)]; omega
    · rw [pl_min m (j + 1) (by omega)]; omega
theorem wd_take {w : List Int} {L : Int} : ∀ (m j : Nat), j + m ≤ w.length → Gk.wd (w ++ [L]) w.length j m = (w.drop j).take m
  | 0, j, h => rfl
  | m + 1, j, h => by
    have hl : (w ++ [L]).length = w.length + 1 := by rw [List.length_append]; rfl
    have hj : j < w.length := by omega
    show (w ++ [L]).getD j 0 :: Gk.wd (w ++ [L]) w.length (Gk.af (w ++ [L]).length w.length j) m = _
    rw [hl, Gk.af, if_neg (by omega), wd_take m (j + 1) (by omega), List.drop_eq_getElem_cons hj, List.take_succ_cons, List.getD_eq_getElem?_getD, List.getElem?_append_left hj, List.getElem?_eq_getElem hj]
    rfl
theorem st_word {w : List Int} {L : Int} {e : Ex} (hL : Lt L e) (hw : w ≠ []) : Gk.St (w ++ [L]) w.length e 0 w.length ↔ Lg e w := by
  have hl : (w ++ [L]).length = w.length + 1 := by rw [List.length_append]; rfl
  have hp : 0 < w.length := List.length_pos_iff.mpr hw
  constructor
  · rintro ⟨m, h1, h2, h3⟩
    rw [hl, pl_min m 0 (by omega)] at h2
    have hm : w.length ≤ m := by omega
    obtain ⟨k, rfl⟩ : ∃ k, m = w.length + k := ⟨m - w.length, by omega⟩
    rw [Gk.wd_add, hl, pl_min _ 0 (by omega), show min (0 + w.length) w.length = w.length by omega, wd_take w.length 0 (by omega), List.drop_zero, List.take_length] at h3
    cases k with
    | zero =>
      have : Gk.wd (w ++ [L]) w.length w.length 0 = [] := rfl
      rw [this, List.append_nil] at h3
      exact h3
    | succ k =>
      exfalso
      have hm : L ∈ w ++ Gk.wd (w ++ [L]) w.length w.length (k + 1) := by
        refine List.mem_append.mpr (.inr ?_)
        show L ∈ (w ++ [L]).getD w.length 0 :: _
        rw [List.getD_eq_getElem?_getD, List.getElem?_append_right (Nat.le_refl _), Nat.sub_self]
        exact List.mem_cons_self
      have := hL L (lg_mem h3 L hm)
      omega
  · intro h
    refine ⟨w.length, hp, ?_, ?_⟩
    · rw [hl, pl_min _ 0 (by omega)]; omega
    · rw [wd_take w.length 0 (by omega), List.drop_zero, List.take_length]; exact h
theorem sm_word {w : List Int} {L : Int} {e : Ex} (hL : Lt L e) (hw : w ≠ []) : gt (sm (w ++ [L]) w.length e) 0 w.length = true ↔ Lg e w := by
  have hl : (w ++ [L]).length = w.length + 1 := by rw [List.length_append]; rfl
  rw [sm_st (by omega) e 0 w.length (by omega) (by omega), st_word hL hw]
theorem nul_iff {e : Ex} : nul e = true ↔ Lg e [] := ⟨Gk.of_nul, fun h => Gk.nul_of h rfl⟩
open Gk (Ex Lg nul np fs la fo)
theorem ok_law {f : Addr} {fd : FuncData} (F : L2.Fun K "law" "law" s_law f fd) (T : Txt K mg) : FnOk P w K mg base CX0 10 f fd ["script"] (spLaw K) := by
  obtain ⟨C, fI, fA, fC, fL, fdI, fdA, fdQ, fdL, PP, MP, gP, FI, bI, MA, F3, bA, MC, F2, bC, ML, F4, bL⟩ := T.er
  have C_law_draws : C8.Cal P w K mg base 1 "_law_draws" (spDraws K) [] := cal_draws T
  have C_law_take : C8.Cal P w K mg base 1 "_law_take" spTake [] := cal_take T
  have C_law_expression : C8.Cal P w K mg base 5 "_law_expression" (spExpr K 4) [] := cal_expr T 4
  have C_law_nullable : C8.Cal P w K mg base 5 "_law_nullable" (spNulE K 4) [] := cal_nulE T 4
  have C_law_made : C8.Cal P w K mg base 5 "_law_made" (spMade K 4) [] := cal_made T 4 (by decide)
  have C_law_steps : C8.Cal P w K mg base 7 "_law_steps" (spSte K 4) [] := cal_ste T 4
  have C_matches : C8.Cal P w K mg base 9 "matches" (spMat K 3) [] := cal_mat T PP MP gP FI bI MA F3 bA MC F2 bC ML F4 bL
  refine F.ok sc_law (fun vs H Q E h => ?_) (fun cdv A outer s H vs Q E hr h => ?_)
  · obtain ⟨a, ns, rfl, _⟩ := h
    rfl
  · obtain ⟨sa, ns, rfl, hS, hlen, q⟩ := h
    refine ⟨_, (pss_cons
      (ps_set (i := 1) sc_law.nd rfl (Or.inr rfl) (C8.pe_c C_law_draws hr (by decide) (by rfl) (pa_cons (pv 0) (pa_cons pe_int pa_nil))))
      (pss_cons
      (ps_set (i := 2) sc_law.nd rfl (Or.inr rfl) (pe_op op_add pe_int (C8.pe_c C_law_take hr (by decide) (by rfl) (pa_cons (pv 1) (pa_cons pe_int pa_nil)))))
      (pss_cons
      (ps_set (i := 3) sc_law.nd rfl (Or.inl rfl) (C8.pe_c C_law_expression hr (by decide) (by rfl) (pa_cons (pv 1) (pa_cons (pv 2) (pa_cons pe_int pa_nil)))))
      (pss_cons
      (ps_setLc (i := 4) (own := [("k", 9)]) (g := gName 9) (tt := tYes) rfl sc_law.nd rfl rfl (sw_true rfl rfl rfl (by decide +kernel)) (pi_range1 (by rfl) T.z_range (pa_cons (C8.pe_c C_law_take hr (by decide) (by rfl) (pa_cons (pv 1) (pa_cons pe_int pa_nil))) pa_nil)) (blkOk_by (N := N_law) (sc := defScope s_law) (by decide +kernel)) (fun _ _ _ _ _ => (pg_name (i := 9) sc_law.nd rfl (Or.inl rfl))) (fun _ _ _ _ _ => pts_nil) (fun _ _ _ _ _ => (C8.pe_c C_law_take hr (by decide) (by rfl) (pa_cons (pv 1) (pa_cons (pv 2) pa_nil)))))
      (C8.pss_cut
      (ps_if (pt_cmpR op_eq (C8.pe_c C_law_take hr (by decide) (by rfl) (pa_cons (pv 1) (pa_cons pe_int pa_nil))) pe_int (nomark _)) (pss_cons
      (ps_set (i := 4) sc_law.nd rfl (Or.inl rfl) (pe_slice (sl_listK (K := K) rfl) (C8.pe_c C_law_made hr (by decide) (by rfl) (pa_cons (pv 1) (pa_cons (pv 3) pa_nil))) po_none (po_some pe_int)))
      (pss_one
      (ps_if (PW.pt (pw_and (pt_cmpR op_gt (pe_callB (call_lenK (K := K) rfl) (by rfl) T.z_len PySem.boot_len (pa_cons (pv 4) pa_nil)) pe_int (nomark _)) (pw_and1 (pt_cmpR op_eq (C8.pe_c C_law_take hr (by decide) (by rfl) (pa_cons (pv 1) (pa_cons pe_int pa_nil))) pe_int (nomark _))))) (pss_one
      (ps_asg (C8.pe_c C_law_take hr (by decide) (by rfl) (pa_cons (pv 1) (pa_cons (pv 2) pa_nil))) (pg_sub (pv 4) (C8.pe_c C_law_take hr (by decide) (by rfl) (pa_cons (pv 1) (pa_cons (pe_callB (call_lenK (K := K) rfl) (by rfl) T.z_len PySem.boot_len (pa_cons (pv 4) pa_nil)) pa_nil))) set_list))) pss_nil))) pss_nil)
      (pss_cons
      (ps_set (i := 5) sc_law.nd rfl (Or.inl rfl) (C8.pe_c C_law_nullable hr (by decide) (by rfl) (pa_cons (pv 3) pa_nil)))
      (C8.pss_cut
      (ps_if (pt_cmpR op_gt (pe_callB (call_lenK (K := K) rfl) (by rfl) T.z_len PySem.boot_len (pa_cons (pv 4) pa_nil)) pe_int (nomark _)) (pss_cons
      (ps_set (i := 6) sc_law.nd rfl (Or.inl rfl) (C8.pe_c C_law_steps hr (by decide) (by rfl) (pa_cons (pv 3) (pa_cons (pe_op op_cat (pv 4) (pe_lst (pa_cons (pv 2) pa_nil))) (pa_cons (pe_callB (call_lenK (K := K) rfl) (by rfl) T.z_len PySem.boot_len (pa_cons (pv 4) pa_nil)) pa_nil)))))
      (pss_one
      (ps_set (i := 5) sc_law.nd rfl (Or.inl rfl) (pe_ix (ix_listK (K := K) rfl) (pe_ix (ix_listK (K := K) rfl) (pv 6) pe_int (fun _ _ => rfl)) (pe_callB (call_lenK (K := K) rfl) (by rfl) T.z_len PySem.boot_len (pa_cons (pv 4) pa_nil)) (fun _ _ => rfl))))) pss_nil)
      (pss_cons
      (ps_set (i := 7) sc_law.nd rfl (Or.inl rfl) (pe_callTy (call_list_ofK (K := K) rfl) (by rfl) T.z_list (by decide +kernel) (pa_cons (pv 4) pa_nil)))
      (pss_cons
      (ps_set (i := 8) sc_law.nd rfl (Or.inl rfl) (C8.pe_c C_matches hr (by decide) (by rfl) (pa_cons (pv 3) (pa_cons (pv 7) pa_nil))))
      (pss_one
      (ps_ret (pe_and (pe_callB (call_isiK' (K := K) rfl) (by rfl) T.z_isinstance (by decide +kernel) (pa_cons (pv 8) (pa_cons (pe_bltn (v := .ty "bool") (by rfl) T.z_bool (by decide +kernel) rfl) pa_nil))) (pe_and (pe_cmpR op_eq (pv 8) (pv 5) (nomark _)) (pe_one (pe_cmpR (op_eqDK (K := K) rfl hr.units) (pv 7) (pv 4) (nomark _)))))))))))))))), ?_⟩
    refine ⟨_, rfl, sa, ns, 150, rfl, hS, by decide, fun H1 d s1 hd0 d1 => ?_⟩
    refine ⟨_, rfl, d, 3, rfl, d1, by decide, fun lv ds l0 l1 => ?_⟩
    have d2 : Drw (upd H1 d (.lst (ds.map V.int))) d := Drw.own
    generalize upd H1 d (.lst (ds.map V.int)) = H2 at d2 ⊢
    refine ⟨_, _, rfl, rfl, ?_⟩
    show gName 2 (V.int (1 + lv)) _ _ _
    have hL1 : 1 ≤ 1 + lv := by omega
    have hL3 : 1 + lv ≤ 3 := by omega
    generalize 1 + lv = L at hL1 hL3 ⊢
    refine ⟨_, rfl, _, rfl, d, L, rfl, d2, hL1, by omega, fun H3 v e k3 d3 he hLt hnp hdep => ?_⟩
    clear k3 d2 d1 s1 hd0 l0 l1
    refine ⟨_, rfl, d, 7, rfl, d3, by decide, fun nv ds4 n0 n1 => ?_⟩
    have d4 : Drw (upd H3 d (.lst (ds4.map V.int))) d := Drw.own
    have k4 : Kp d H3 (upd H3 d (.lst (ds4.map V.int))) := Kp.own
    have he4 := ex_kp k4 d3 he
    generalize upd H3 d (.lst (ds4.map V.int)) = H4 at k4 d4 he4 ⊢
    clear k4 he d3
    refine ⟨_, rfl, by omega, by omega, fun W nW => ?_⟩
    have nWd : W ≠ d := drw_ne d4 nW
    refine lc_range (lo := 0) (n := nv.toNat) (fun i H' => ∃ zs : List Int, zs.length = i ∧ Kp d H4 H' ∧ Drw H' d ∧ H' W = some (.lst (zs.map V.int)) ∧ ∀ z ∈ zs, 0 ≤ z ∧ z < L)
      ⟨[], rfl, Kp.new nW, d4.new nW, upd_same, fun z hz => by (cases hz)⟩ ?_ ?_
    · rintro i H5 hi ⟨zs, hzl, k5, d5, eW, hz⟩
      rw [Int.zero_add]
      refine ⟨rfl, _, rfl, _, rfl, d, L, rfl, d5, by omega, fun z ds6 z0 z1 => ?_⟩
      refine ⟨zs.map V.int, by rw [upd_ne nWd]; exact eW, by rw [List.length_map]; exact Nat.lt_of_le_of_lt (show zs.length ≤ 100 by omega) (by decide), zs ++ [z], by rw [List.length_append, hzl]; rfl, fun b o hb h => ?_, ?_, by rw [upd_same, List.map_append]; rfl, fun y hy => ?_⟩
      · have hbW : b ≠ W := fun c => by rw [c, nW] at h; cases h
        rw [upd_ne hbW, upd_ne hb]; exact k5 _ _ hb h
      · exact ⟨ds6, by rw [upd_ne nWd.symm, upd_same]⟩
      · rcases List.mem_append.mp hy with hy | hy
        · exact hz y hy
        · rw [List.mem_singleton.mp hy]; exact ⟨z0, z1⟩
    rintro H5 ⟨zs, hzl, k5, d5, eW, hz⟩
    have he5 := ex_kp k5 d4 he4
    clear k5 he4 d4
    refine ⟨fun σ' H' => ∃ (W : Addr) (zs : List Int), σ' = [some (.ref sa), some (.ref d), some (.int L), some v, some (.ref W), none, none, none, none, none] ∧ Kp d H5 H' ∧ Drw H' d ∧ W ≠ d ∧ H' W = some (.lst (zs.map V.int)) ∧ zs.length ≤ 8 ∧ ∀ z ∈ zs, 0 ≤ z ∧ z < L, ?_, ?_⟩
    · refine ⟨_, rfl, d, 2, rfl, d5, by decide, fun tv ds6 t0 t1 => ?_⟩
      have d6 : Drw (upd H5 d (.lst (ds6.map V.int))) d := Drw.own
      have k6 : Kp d H5 (upd H5 d (.lst (ds6.map V.int))) := Kp.own
      have eW6 := k6 _ _ nWd eW
      have he6 := ex_kp k6 d5 he5
      generalize upd H5 d (.lst (ds6.map V.int)) = H6 at k6 d6 eW6 he6 ⊢
      refine ⟨rfl, _, rfl, ite_eq (fun c => ?_) (fun c => ⟨W, zs, rfl, k6, d6, nWd, eW6, by omega, hz⟩)⟩
      refine ⟨_, rfl, _, rfl, d, v, e, L, rfl, d6, he6, hLt, hdep, fun H7 r ws k7 d7 er hws hwl nrd => ?_⟩
      show tNoPart _ _ _
      rw [noPart]
      refine ⟨8, rfl, ?_⟩
      refine sll_to (n := 8) er rfl fun p np' => ?_
      have d8 := d7.new (o := .lst ((ws.take 8).map V.int)) np'
      have k8 := k7.trans (Kp.new (o := .lst ((ws.take 8).map V.int)) np')
      have ep : (upd H7 p (.lst ((ws.take 8).map V.int))) p = some (.lst ((ws.take 8).map V.int)) := upd_same
      have npd := drw_ne d7 np'
      have hn5 : ∀ o, H5 p ≠ some o := fun o z => by have := (k6.trans k7) _ _ npd z; rw [np'] at this; cases this
      have hw8 : ∀ z ∈ ws.take 8, 0 ≤ z ∧ z < L := fun z hz => hws z (List.mem_of_mem_take hz)
      have hl8 : (ws.take 8).length ≤ 8 := by rw [List.length_take]; omega
      generalize upd H7 p (.lst ((ws.take 8).map V.int)) = H8 at d8 k8 ep ⊢
      generalize ws.take 8 = us at ep hw8 hl8 ⊢
      have k68 := k6.trans k8
      clear k8 k7 k6 er hws hwl d7 eW6 d6 np'
      have hul : ((us.map V.int).length : Int) = (us.length : Int) := by rw [List.length_map]
      refine ⟨_, rfl, p, _, rfl, .inl (.of ep), _, _, rfl, rfl, _, rfl, ite_lt (fun c2 => ?_) (fun c2 => ⟨p, us, rfl, k68, d8, npd, ep, hl8, hw8⟩)⟩
      rw [hul] at c2
      refine ⟨_, rfl, d, 2, rfl, d8, by decide, fun yv ds9 y0 y1 => ?_⟩
      have d9 : Drw (upd H8 d (.lst (ds9.map V.int))) d := Drw.own
      have k9 : Kp d H8 (upd H8 d (.lst (ds9.map V.int))) := Kp.own
      have ep9 := k9 _ _ npd ep
      generalize upd H8 d (.lst (ds9.map V.int)) = H9 at k9 d9 ep9 ⊢
      refine ⟨rfl, _, rfl, ite_eq (fun c => ?_) (fun c => ⟨p, us, rfl, k68.trans k9, d9, npd, ep9, hl8, hw8⟩)⟩
      refine ⟨_, rfl, _, rfl, d, L, rfl, d9, by omega, fun z dsa z0 z1 => ?_⟩
      have da : Drw (upd H9 d (.lst (dsa.map V.int))) d := Drw.own
      have ka : Kp d H9 (upd H9 d (.lst (dsa.map V.int))) := Kp.own
      have epa := ka _ _ npd ep9
      generalize upd H9 d (.lst (dsa.map V.int)) = Ha at ka da epa ⊢
      refine ⟨_, rfl, _, rfl, _, rfl, p, _, rfl, .inl (.of epa), d, _, rfl, da, by rw [hul]; exact c2, fun x dsb x0 x1 => ?_⟩
      have db : Drw (upd Ha d (.lst (dsb.map V.int))) d := Drw.own
      have kb : Kp d Ha (upd Ha d (.lst (dsb.map V.int))) := Kp.own
      have epb := kb _ _ npd epa
      generalize upd Ha d (.lst (dsb.map V.int)) = Hb at kb db epb ⊢
      rw [hul] at x1
      refine ⟨p, us.map V.int, x, x.toNat, rfl, rfl, epb, ?_, ?_⟩
      · obtain ⟨m, rfl⟩ : ∃ m : Nat, x = (m : Int) := ⟨x.toNat, by omega⟩
        rw [Int.toNat_natCast]
        exact ixN_at (by rw [List.length_map]; omega)
      · refine ⟨p, us.set x.toNat z, rfl, fun b o hb h => ?_, ?_, npd, by rw [upd_same, List.map_set], by rw [List.length_set]; exact hl8, fun y hy => ?_⟩
        · rw [upd_ne (fun c => hn5 o (by rw [← c]; exact h))]
          exact (((k68.trans k9).trans ka).trans kb) _ _ hb h
        · obtain ⟨y, hy⟩ := db
          exact ⟨y, by rw [upd_ne npd.symm]; exact hy⟩
        · rcases List.mem_or_eq_of_mem_set hy with h | rfl
          · exact hw8 _ h
          · exact ⟨z0, z1⟩
    · rintro σ' H6 ⟨W, zs, rfl, k6, d6, nWd, eW, hzl, hz⟩
      have he6 := ex_kp k6 d5 he5
      clear d5 k6 he5
      refine ⟨_, rfl, v, e, rfl, he6, hdep, fun H7 s7 => ?_⟩
      have eW7 := s7 _ _ eW
      have he7 := he6.same s7
      clear eW he6 s7
      have hul : ((zs.map V.int).length : Int) = (zs.length : Int) := by rw [List.length_map]
      refine ⟨fun σ' H' => ∃ (v6 : Option V) (b : Bool), σ' = [some (.ref sa), some (.ref d), some (.int L), some v, some (.ref W), some (.bl b), v6, none, none, none] ∧ Same H7 H' ∧ (b = true ↔ Lg e zs), ?_, ?_⟩
      · refine ⟨_, rfl, W, _, rfl, .inl (.of eW7), _, _, rfl, rfl, _, rfl, ite_lt (fun c2 => ?_) (fun c2 => ⟨none, nul e, rfl, Same.refl _, ?_⟩)⟩
        · rw [hul] at c2
          have hne : zs ≠ [] := fun z => by rw [z] at c2; exact absurd c2 (by decide)
          refine ⟨_, rfl, _, rfl, _, rfl, by show 1 ≤ sizeLine; decide, fun l1 nl1 => ?_⟩
          generalize hX : upd H7 l1 _ = H8; obtain ⟨sH8, el1⟩ := nw nl1 hX; clear hX
          refine ⟨W, l1, _, _, rfl, rfl, sH8 _ _ eW7, el1, by rw [List.length_map]; exact Nat.le_trans (show _ ≤ 9 by show zs.length + 1 ≤ 9; omega) (by decide), fun l2 nl2 => ?_⟩
          rw [show zs.map V.int ++ [V.int L] = (zs ++ [L]).map V.int by rw [List.map_append]; rfl]
          generalize hX : upd H8 l2 _ = H9; obtain ⟨sH9, el2⟩ := nw nl2 hX; clear hX
          have s9 := sH8.trans sH9
          have hl9 : (zs ++ [L]).length = zs.length + 1 := by rw [List.length_append]; rfl
          refine ⟨_, rfl, W, _, rfl, .inl (.of (s9 _ _ eW7)), v, l2, zs.length, e, zs ++ [L], by rw [hul]; rfl, he7.same s9, el2, by omega, by omega, hdep, fun Ha r sa' hr' => ?_⟩
          obtain ⟨as, f1, f2, f3⟩ := hr'
          have sq := sm_sq (ls := zs ++ [L]) (back := zs.length) e
          have hal : as.length = zs.length + 1 := by rw [f2, sq.len, hl9]
          obtain ⟨a, ha⟩ : ∃ a, as[0]? = some a := ⟨_, List.getElem?_eq_getElem (by omega)⟩
          refine ⟨_, rfl, r, _, _, .ref a, rfl, rfl, .of f1, atN ha, ?_⟩
          refine ⟨_, rfl, W, _, rfl, .inl (.of (sa' _ _ (s9 _ _ eW7))), a, _, _, .bl (gt (sm (zs ++ [L]) zs.length e) 0 zs.length), rfl, rfl, .of (f3 0 a ha), by rw [hul]; exact atI_nat (by rw [List.getElem?_map, gt_at sq (by omega) (by omega)]; rfl), ?_⟩
          exact ⟨_, _, rfl, s9.trans sa', sm_word hLt hne⟩
        · rw [hul] at c2
          have : zs = [] := List.length_eq_zero_iff.mp (by omega)
          rw [this]
          exact nul_iff
      rintro σ' H8 ⟨v6, b, rfl, s8, hb⟩
      have eW8 := s8 _ _ eW7
      have he8 := he7.same s8
      refine ⟨_, rfl, W, _, rfl, .inl (.of eW8), fun pp npp => ?_⟩
      generalize hX : upd H8 pp _ = H9; obtain ⟨sH9, epp⟩ := nw npp hX; clear hX
      refine ⟨_, rfl, _, rfl, v, pp, e, zs, rfl, he8.same sH9, Nat.le_trans hnp (by decide), hdep, epp, by omega, fun Ha b2 sa' hb2 => ?_⟩
      have hbb : b2 = b := by
        cases b <;> cases b2 <;> simp_all
      refine ⟨_, rfl, _, _, _, _, true, rfl, .ty "bool", .base (.bl _), kit_ty (by decide +kernel), true, rfl, iteB_t rfl ?_⟩
      refine ⟨_, rfl, _, rfl, rfl, _, rfl, ?_⟩
      rw [hbb, decide_eq_true rfl]
      refine iteB_t rfl ⟨_, rfl, _, rfl, _, _, dp_lst (sa' _ _ epp), dp_lst (sa' _ _ (sH9 _ _ eW8)), shaped_lst _, shaped_lst _, ?_⟩
      rw [eqv_lst, decide_eq_true rfl]
      exact q _
end

theorem all_mk {l : PySem.W.OpenLaw} {w : World} {K : PySem.W.Frag} {h : Heap} {mg : Str → Option Value} {fa : Addr} {f0 f1 f2 f3 f4 f5 f6 f7 f8 f9 f10 f11 C fI fA fC fL : Addr} (X : K.In h) (G : h.Ns mainGlobals mg) (hfa : mg "law" = some (.ref fa))
    {od0 an0 od1 an1 od2 an2 od3 an3 od4 an4 od5 an5 od6 an6 od7 an7 od8 an8 od9 an9 od10 an10 od11 an11 : Option Addr} {sl0 sl1 sl2 sl3 sl4 sl5 sl6 sl7 sl8 sl9 sl10 sl11 : Array (Option Value)} {oc0 kV0 dc0 pm0 cd0 ct0 oc1 kV1 dc1 pm1 cd1 ct1 oc2 kV2 dc2 pm2 cd2 ct2 oc3 kV3 dc3 pm3 cd3 ct3 oc4 kV4 dc4 pm4 cd4 ct4 oc5 kV5 dc5 pm5 cd5 ct5 oc6 kV6 dc6 pm6 cd6 ct6 oc7 kV7 dc7 pm7 cd7 ct7 oc8 kV8 dc8 pm8 cd8 ct8 oc9 kV9 dc9 pm9 cd9 ct9 oc10 kV10 dc10 pm10 cd10 ct10 oc11 kV11 dc11 pm11 cd11 ct11 : Value} {odI anI : Option Addr} {slI : Array (Option Value)} {ocI kVI dcI pmI cdI ctI : Value} {odA anA : Option Addr} {slA : Array (Option Value)} {ocA kVA dcA pmA cdA ctA : Value} {odQ anQ : Option Addr} {slQ : Array (Option Value)} {ocQ kVQ dcQ pmQ cdQ ctQ : Value} {odL anL : Option Addr} {slL : Array (Option Value)} {ocL kVL dcL pmL cdL ctL : Value} 
    (a0 : PySem.W.nsIn K mainGlobals "numbers_of" = some (some (.ref f0))) (l0 : K.lookup f0 = some ⟨oc0, od0, .func (PySem.W.fnOf "numbers_of" "numbers_of" (defArgs s_numbers_of) (defBody s_numbers_of) (defScope s_numbers_of) .none kV0 dc0 pm0 an0 cd0 ct0), sl0⟩) (c0 : PySem.W.codeIn K cd0 "numbers_of" = true) (k0 : PySem.W.keepIn K (.ref f0) = true)
    (a1 : PySem.W.nsIn K mainGlobals "matches" = some (some (.ref f1))) (l1 : K.lookup f1 = some ⟨oc1, od1, .func (PySem.W.fnOf "matches" "matches" (defArgs s_matches) (defBody s_matches) (defScope s_matches) .none kV1 dc1 pm1 an1 cd1 ct1), sl1⟩) (c1 : PySem.W.codeIn K cd1 "matches" = true) (k1 : PySem.W.keepIn K (.ref f1) = true)
    (a2 : PySem.W.nsIn K mainGlobals "_law_draws" = some (some (.ref f2))) (l2 : K.lookup f2 = some ⟨oc2, od2, .func (PySem.W.fnOf "_law_draws" "_law_draws" (defArgs s_law_draws) (defBody s_law_draws) (defScope s_law_draws) .none kV2 dc2 pm2 an2 cd2 ct2), sl2⟩) (c2 : PySem.W.codeIn K cd2 "_law_draws" = true) (k2 : PySem.W.keepIn K (.ref f2) = true)
    (a3 : PySem.W.nsIn K mainGlobals "_law_take" = some (some (.ref f3))) (l3 : K.lookup f3 = some ⟨oc3, od3, .func (PySem.W.fnOf "_law_take" "_law_take" (defArgs s_law_take) (defBody s_law_take) (defScope s_law_take) .none kV3 dc3 pm3 an3 cd3 ct3), sl3⟩) (c3 : PySem.W.codeIn K cd3 "_law_take" = true) (k3 : PySem.W.keepIn K (.ref f3) = true)
    (a4 : PySem.W.nsIn K mainGlobals "_law_expression" = some (some (.ref f4))) (l4 : K.lookup f4 = some ⟨oc4, od4, .func (PySem.W.fnOf "_law_expression" "_law_expression" (defArgs s_law_expression) (defBody s_law_expression) (defScope s_law_expression) .none kV4 dc4 pm4 an4 cd4 ct4), sl4⟩) (c4 : PySem.W.codeIn K cd4 "_law_expression" = true) (k4 : PySem.W.keepIn K (.ref f4) = true)
    (a5 : PySem.W.nsIn K mainGlobals "_law_nullable" = some (some (.ref f5))) (l5 : K.lookup f5 = some ⟨oc5, od5, .func (PySem.W.fnOf "_law_nullable" "_law_nullable" (defArgs s_law_nullable) (defBody s_law_nullable) (defScope s_law_nullable) .none kV5 dc5 pm5 an5 cd5 ct5), sl5⟩) (c5 : PySem.W.codeIn K cd5 "_law_nullable" = true) (k5 : PySem.W.keepIn K (.ref f5) = true)
    (a6 : PySem.W.nsIn K mainGlobals "_law_composed" = some (some (.ref f6))) (l6 : K.lookup f6 = some ⟨oc6, od6, .func (PySem.W.fnOf "_law_composed" "_law_composed" (defArgs s_law_composed) (defBody s_law_composed) (defScope s_law_composed) .none kV6 dc6 pm6 an6 cd6 ct6), sl6⟩) (c6 : PySem.W.codeIn K cd6 "_law_composed" = true) (k6 : PySem.W.keepIn K (.ref f6) = true)
    (a7 : PySem.W.nsIn K mainGlobals "_law_joined" = some (some (.ref f7))) (l7 : K.lookup f7 = some ⟨oc7, od7, .func (PySem.W.fnOf "_law_joined" "_law_joined" (defArgs s_law_joined) (defBody s_law_joined) (defScope s_law_joined) .none kV7 dc7 pm7 an7 cd7 ct7), sl7⟩) (c7 : PySem.W.codeIn K cd7 "_law_joined" = true) (k7 : PySem.W.keepIn K (.ref f7) = true)
    (a8 : PySem.W.nsIn K mainGlobals "_law_closed" = some (some (.ref f8))) (l8 : K.lookup f8 = some ⟨oc8, od8, .func (PySem.W.fnOf "_law_closed" "_law_closed" (defArgs s_law_closed) (defBody s_law_closed) (defScope s_law_closed) .none kV8 dc8 pm8 an8 cd8 ct8), sl8⟩) (c8 : PySem.W.codeIn K cd8 "_law_closed" = true) (k8 : PySem.W.keepIn K (.ref f8) = true)
    (a9 : PySem.W.nsIn K mainGlobals "_law_steps" = some (some (.ref f9))) (l9 : K.lookup f9 = some ⟨oc9, od9, .func (PySem.W.fnOf "_law_steps" "_law_steps" (defArgs s_law_steps) (defBody s_law_steps) (defScope s_law_steps) .none kV9 dc9 pm9 an9 cd9 ct9), sl9⟩) (c9 : PySem.W.codeIn K cd9 "_law_steps" = true) (k9 : PySem.W.keepIn K (.ref f9) = true)
    (a10 : PySem.W.nsIn K mainGlobals "_law_made" = some (some (.ref f10))) (l10 : K.lookup f10 = some ⟨oc10, od10, .func (PySem.W.fnOf "_law_made" "_law_made" (defArgs s_law_made) (defBody s_law_made) (defScope s_law_made) .none kV10 dc10 pm10 an10 cd10 ct10), sl10⟩) (c10 : PySem.W.codeIn K cd10 "_law_made" = true) (k10 : PySem.W.keepIn K (.ref f10) = true)
    (a11 : PySem.W.nsIn K mainGlobals "law" = some (some (.ref f11))) (l11 : K.lookup f11 = some ⟨oc11, od11, .func (PySem.W.fnOf "law" "law" (defArgs s_law) (defBody s_law) (defScope s_law) .none kV11 dc11 pm11 an11 cd11 ct11), sl11⟩) (c11 : PySem.W.codeIn K cd11 "law" = true) (k11 : PySem.W.keepIn K (.ref f11) = true)
    (z0 : PySem.W.nsIn K mainGlobals "bool" = some none) (z1 : PySem.W.nsIn K mainGlobals "int" = some none) (z2 : PySem.W.nsIn K mainGlobals "isinstance" = some none) (z3 : PySem.W.nsIn K mainGlobals "len" = some none) (z4 : PySem.W.nsIn K mainGlobals "list" = some none) (z5 : PySem.W.nsIn K mainGlobals "range" = some none) (ya : PySem.W.nsIn K mainGlobals "Positions" = some (some (.ref C))) (yb : PySem.W.plainGet K C Str.empty = true) (yc : PySem.W.hasDictIn K C = true) (yd : PySem.W.plainOver K C = true) (ye : PySem.W.findIn K (.ref C) "__setattr__" = some (some (.builtin "object.__setattr__"))) (yf0 : PySem.W.findIn K (.ref C) "letters" = some none) (yf1 : PySem.W.findIn K (.ref C) "follows" = some none) (yf2 : PySem.W.findIn K (.ref C) "first" = some none) (yf3 : PySem.W.findIn K (.ref C) "last" = some none) (yf4 : PySem.W.findIn K (.ref C) "nullable" = some none) (yj : PySem.W.makesIn K C = true) (yk : PySem.W.findIn K (.ref C) "__init__" = some (some (.ref fI))) (yl : PySem.W.isFn K (.ref fI) = true) (ym : PySem.W.keepIn K (.ref C) = true) (yn : K.lookup fI = some ⟨ocI, odI, .func (PySem.W.fnOf "__init__" "Positions.__init__" (defArgs s_Positions_init) (defBody s_Positions_init) (defScope s_Positions_init) .none kVI dcI pmI anI cdI ctI), slI⟩) (yo : PySem.W.codeIn K cdI "Positions.__init__" = true) (yp : PySem.W.keepIn K (.ref fI) = true) (a9a : PySem.W.findIn K (.ref C) "add_part" = some (some (.ref fA))) (a9n : K.lookup fA = some ⟨ocA, odA, .func (PySem.W.fnOf "add_part" "Positions.add_part" (defArgs s_Positions_add_part) (defBody s_Positions_add_part) (defScope s_Positions_add_part) .none kVA dcA pmA anA cdA ctA), slA⟩) (a9o : PySem.W.codeIn K cdA "Positions.add_part" = true) (a9p : PySem.W.keepIn K (.ref fA) = true) (a9b : PySem.W.isFn K (.ref fA) = true) (c9a : PySem.W.findIn K (.ref C) "connect" = some (some (.ref fC))) (c9n : K.lookup fC = some ⟨ocQ, odQ, .func (PySem.W.fnOf "connect" "Positions.connect" (defArgs s_Positions_connect) (defBody s_Positions_connect) (defScope s_Positions_connect) .none kVQ dcQ pmQ anQ cdQ ctQ), slQ⟩) (c9o : PySem.W.codeIn K cdQ "Positions.connect" = true) (c9p : PySem.W.keepIn K (.ref fC) = true) (c9b : PySem.W.isFn K (.ref fC) = true) (l9a : PySem.W.findIn K (.ref C) "at_letter" = some (some (.ref fL))) (l9n : K.lookup fL = some ⟨ocL, odL, .func (PySem.W.fnOf "at_letter" "Positions.at_letter" (defArgs s_Positions_at_letter) (defBody s_Positions_at_letter) (defScope s_Positions_at_letter) .none kVL dcL pmL anL cdL ctL), slL⟩) (l9o : PySem.W.codeIn K cdL "Positions.at_letter" = true) (l9p : PySem.W.keepIn K (.ref fL) = true) (l9b : PySem.W.isFn K (.ref fL) = true) :
    ∃ fd : FuncData, (∀ (s : Shared) (v : Value), BindsTo s fd ⟨[v], []⟩ [("script", v)]) ∧ ∀ base : Heap, K.In base → base.Ns mainGlobals mg → FnOk l.prog w K mg base CX0 10 fa fd ["script"] (spLaw K) := by
  have e := hfa.symm.trans (PySem.W.mg_of X G a11)
  cases e
  have T : Txt K mg := ⟨⟨f0, _, fun_mk (st := s_numbers_of) l0 c0 k0, PySem.W.mg_of X G a0, (fun_mk (st := s_numbers_of) l0 c0 k0).binds fun _ _ _ _ _ _ us hl => match us, hl with | [_], _ => rfl⟩, ⟨f1, _, fun_mk (st := s_matches) l1 c1 k1, PySem.W.mg_of X G a1, (fun_mk (st := s_matches) l1 c1 k1).binds fun _ _ _ _ _ _ us hl => match us, hl with | [_, _], _ => rfl⟩, ⟨f2, _, fun_mk (st := s_law_draws) l2 c2 k2, PySem.W.mg_of X G a2, (fun_mk (st := s_law_draws) l2 c2 k2).binds fun _ _ _ _ _ _ us hl => match us, hl with | [_, _], _ => rfl⟩, ⟨f3, _, fun_mk (st := s_law_take) l3 c3 k3, PySem.W.mg_of X G a3, (fun_mk (st := s_law_take) l3 c3 k3).binds fun _ _ _ _ _ _ us hl => match us, hl with | [_, _], _ => rfl⟩, ⟨f4, _, fun_mk (st := s_law_expression) l4 c4 k4, PySem.W.mg_of X G a4, (fun_mk (st := s_law_expression) l4 c4 k4).binds fun _ _ _ _ _ _ us hl => match us, hl with | [_, _, _], _ => rfl⟩, ⟨f5, _, fun_mk (st := s_law_nullable) l5 c5 k5, PySem.W.mg_of X G a5, (fun_mk (st := s_law_nullable) l5 c5 k5).binds fun _ _ _ _ _ _ us hl => match us, hl with | [_], _ => rfl⟩, ⟨f6, _, fun_mk (st := s_law_composed) l6 c6 k6, PySem.W.mg_of X G a6, (fun_mk (st := s_law_composed) l6 c6 k6).binds fun _ _ _ _ _ _ us hl => match us, hl with | [_, _], _ => rfl⟩, ⟨f7, _, fun_mk (st := s_law_joined) l7 c7 k7, PySem.W.mg_of X G a7, (fun_mk (st := s_law_joined) l7 c7 k7).binds fun _ _ _ _ _ _ us hl => match us, hl with | [_, _], _ => rfl⟩, ⟨f8, _, fun_mk (st := s_law_closed) l8 c8 k8, PySem.W.mg_of X G a8, (fun_mk (st := s_law_closed) l8 c8 k8).binds fun _ _ _ _ _ _ us hl => match us, hl with | [_], _ => rfl⟩, ⟨f9, _, fun_mk (st := s_law_steps) l9 c9 k9, PySem.W.mg_of X G a9, (fun_mk (st := s_law_steps) l9 c9 k9).binds fun _ _ _ _ _ _ us hl => match us, hl with | [_, _, _], _ => rfl⟩, ⟨f10, _, fun_mk (st := s_law_made) l10 c10 k10, PySem.W.mg_of X G a10, (fun_mk (st := s_law_made) l10 c10 k10).binds fun _ _ _ _ _ _ us hl => match us, hl with | [_, _], _ => rfl⟩, PySem.W.mg_none_of X G z0, PySem.W.mg_none_of X G z1, PySem.W.mg_none_of X G z2, PySem.W.mg_none_of X G z3, PySem.W.mg_none_of X G z4, PySem.W.mg_none_of X G z5, ⟨C, fI, fA, fC, fL, _, _, _, _, ⟨⟨yb, yc, yd, ye⟩, yf0, yf1, yf2, yf3, yf4⟩, ⟨yj, yk, yl, ym⟩, PySem.W.mg_of X G ya, fun_mk (st := s_Positions_init) yn yo yp, (fun_mk (st := s_Positions_init) yn yo yp).binds fun _ _ _ _ _ _ us hl => match us, hl with | [_, _], _ => rfl, ⟨a9a, a9b, a9p⟩, fun_mk (st := s_Positions_add_part) a9n a9o a9p, (fun_mk (st := s_Positions_add_part) a9n a9o a9p).binds fun _ _ _ _ _ _ us hl => match us, hl with | [_, _], _ => rfl, ⟨c9a, c9b, c9p⟩, fun_mk (st := s_Positions_connect) c9n c9o c9p, (fun_mk (st := s_Positions_connect) c9n c9o c9p).binds fun _ _ _ _ _ _ us hl => match us, hl with | [_, _, _], _ => rfl, ⟨l9a, l9b, l9p⟩, fun_mk (st := s_Positions_at_letter) l9n l9o l9p, (fun_mk (st := s_Positions_at_letter) l9n l9o l9p).binds fun _ _ _ _ _ _ us hl => match us, hl with | [_, _, _], _ => rfl⟩⟩
  exact ⟨_, fun s v => .of_eq rfl, fun base _ _ => ok_law (fun_mk (st := s_law) l11 c11 k11) T⟩
end My
open PySem PySem.W PyProof.Rows
set_option maxHeartbeats 0 in
theorem PySem.Challenge.cw_reactivesynth_k71_matches_holds : PySem.Challenge.rw_reactivesynth_k71_matches.Holds := by
  w_on; o_law; k_head; (case hw => w_witness2)
  k_fill
  refine L2.walk_of (l := PySem.Challenge.rw_reactivesynth_k71_matches) (n := 63) (k := 10) (x := "script") (CX := fun _ => L2.CX0) (sp := fun w => My.spLaw _) rfl (by decide) rfl ⟨rfl, by decide, by decide⟩ (fun w h Y => PySem.W.kIn_of Y) ?F (fun _ _ a ns hl _ hS => ⟨a, ns, rfl, hS, hl, fun _ => rfl⟩) (fun _ _ _ _ _ h => h)
  case F =>
    intro w mg fa h KX G hmg
    refine' My.all_mk KX G hmg ?a0 ?l0 ?c0 ?k0 ?a1 ?l1 ?c1 ?k1 ?a2 ?l2 ?c2 ?k2 ?a3 ?l3 ?c3 ?k3 ?a4 ?l4 ?c4 ?k4 ?a5 ?l5 ?c5 ?k5 ?a6 ?l6 ?c6 ?k6 ?a7 ?l7 ?c7 ?k7 ?a8 ?l8 ?c8 ?k8 ?a9 ?l9 ?c9 ?k9 ?a10 ?l10 ?c10 ?k10 ?a11 ?l11 ?c11 ?k11 ?z0 ?z1 ?z2 ?z3 ?z4 ?z5 ?ya ?yb ?yc ?yd ?ye ?yf0 ?yf1 ?yf2 ?yf3 ?yf4 ?yj ?yk ?yl ?ym ?yn ?yo ?yp ?a9a ?a9n ?a9o ?a9p ?a9b ?c9a ?c9n ?c9o ?c9p ?c9b ?l9a ?l9n ?l9o ?l9p ?l9b
    (case a0 => k_is); (case l0 => k_is); (case c0 => k_is); (case k0 => k_is); (case a1 => k_is); (case l1 => k_is); (case c1 => k_is); (case k1 => k_is); (case a2 => k_is); (case l2 => k_is); (case c2 => k_is); (case k2 => k_is); (case a3 => k_is); (case l3 => k_is); (case c3 => k_is); (case k3 => k_is); (case a4 => k_is); (case l4 => k_is); (case c4 => k_is); (case k4 => k_is); (case a5 => k_is); (case l5 => k_is); (case c5 => k_is); (case k5 => k_is); (case a6 => k_is); (case l6 => k_is); (case c6 => k_is); (case k6 => k_is); (case a7 => k_is); (case l7 => k_is); (case c7 => k_is); (case k7 => k_is); (case a8 => k_is); (case l8 => k_is); (case c8 => k_is); (case k8 => k_is); (case a9 => k_is); (case l9 => k_is); (case c9 => k_is); (case k9 => k_is); (case a10 => k_is); (case l10 => k_is); (case c10 => k_is); (case k10 => k_is); (case a11 => k_is); (case l11 => k_is); (case c11 => k_is); (case k11 => k_is); (case z0 => k_is); (case z1 => k_is); (case z2 => k_is); (case z3 => k_is); (case z4 => k_is); (case z5 => k_is); (case ya => k_is); (case yb => k_is); (case yc => k_is); (case yd => k_is); (case ye => k_is); (case yf0 => k_is); (case yf1 => k_is); (case yf2 => k_is); (case yf3 => k_is); (case yf4 => k_is); (case yj => k_is); (case yk => k_is); (case yl => k_is); (case ym => k_is); (case yn => k_is); (case yo => k_is); (case yp => k_is); (case a9a => k_is); (case a9n => k_is); (case a9o => k_is); (case a9p => k_is); (case a9b => k_is); (case c9a => k_is); (case c9n => k_is); (case c9o => k_is); (case c9p => k_is); (case c9b => k_is); (case l9a => k_is); (case l9n => k_is); (case l9o => k_is); (case l9p => k_is); (case l9b => k_is)
