import PyProof.Rows.All
import Wide.All
import OpenK.AllK
import Wide.FinOn
import HandS.ForMost
import HandS.ForExc
import HandS.ExcIs
import HandS.ExcOwn
import HandS.WordsExc
import HandS.TryMany
import HandS.TryOnly
import HandS.Codes
import HandS.IsInst
import HandS.TupAny
import HandS.TupMul
import HandS.SortKw
import KE.KMinKey
import PyProof.WalksMore
import HandS.Dict
import HandS.Style
import HandS.Conv
import HandS.Walk
import HandS.Zip
import PyProof.AutoSeq1
import HandS.Text
import HandS.SetFor
import HandS.Strs
import HandS.Star
import HandS.MakeKwOnly
import HandS.Property
import HandS.Steps
import HandS.Defaults
import HandS.WideBits
import HandS.StrMore
import HandS.Replace
import HandS.Deep
import HandS.DictComp
import KE.GoesMore
import HandS.Iter
import HandS.Nested
import HandS.NestedK
import HandS.EndTab
import HandS.AnyAll
import KE.KDictKeyed
import KE.KeyNested
import HandS.Lambda
import HandS.TupLen
import HandS.SetKeys
import KE.GoesEnum
import KE.KDictZip
import KE.KItemsList
import HandS.ListItems
import PySem.Challenge.RW_reactivesynth_k41_minimize
set_option Elab.async false
set_option linter.all false
set_option maxRecDepth 100000
set_option maxHeartbeats 4000000
namespace Wd
/-- m is the length of a proper border of the first k letters -/
def Bd (w : Nat → Int) (k m : Nat) : Prop := m < k ∧ ∀ i, i < m → w i = w (k - m + i)
/-- .. the greatest -/
def Lg (w : Nat → Int) (k m : Nat) : Prop := Bd w k m ∧ ∀ j, Bd w k j → j ≤ m
theorem Bd.zero {w : Nat → Int} {k : Nat} (h : 0 < k) : Bd w k 0 := ⟨h, fun i hi => absurd hi (Nat.not_lt_zero i)⟩
theorem Bd.down {w : Nat → Int} {k m : Nat} (h : Bd w (k + 1) (m + 1)) : Bd w k m ∧ w m = w k := by
  obtain ⟨h1, h2⟩ := h
  refine ⟨⟨by omega, fun i hi => ?_⟩, ?_⟩
  · have := h2 i (by omega)
    rw [this]
    congr 1
    omega
  · have := h2 m (by omega)
    rw [this]
    congr 1
    omega
theorem Bd.up {w : Nat → Int} {k m : Nat} (h : Bd w k m) (e : w m = w k) : Bd w (k + 1) (m + 1) := by
  obtain ⟨h1, h2⟩ := h
  refine ⟨by omega, fun i hi => ?_⟩
  rcases Nat.lt_or_ge i m with c | c
  · rw [h2 i c]
    congr 1
    omega
  · have : i = m := by omega
    subst this
    rw [e]
    congr 1
    omega
theorem Bd.inner {w : Nat → Int} {k b j : Nat} (h : Bd w k b) (g : Bd w k j) (l : j < b) : Bd w b j := by
  obtain ⟨h1, h2⟩ := h
  obtain ⟨g1, g2⟩ := g
  refine ⟨l, fun i hi => ?_⟩
  rw [g2 i hi, h2 (b - j + i) (by omega)]
  congr 1
  omega
theorem Bd.trans {w : Nat → Int} {k b j : Nat} (h : Bd w k b) (g : Bd w b j) : Bd w k j := by
  obtain ⟨h1, h2⟩ := h
  obtain ⟨g1, g2⟩ := g
  refine ⟨by omega, fun i hi => ?_⟩
  rw [g2 i hi, h2 (b - j + i) (by omega)]
  congr 1
  omega
/-- what the inner loop keeps: b is a border of the first k letters, and no border of the first k + 1 is longer than b + 1 -/
def In (w : Nat → Int) (k b : Nat) : Prop := Bd w k b ∧ ∀ j, Bd w (k + 1) (j + 1) → j ≤ b
theorem In.start {w : Nat → Int} {k b : Nat} (h : Lg w k b) : In w k b := ⟨h.1, fun j hj => h.2 j hj.down.1⟩
theorem In.step {w : Nat → Int} {k b c : Nat} (h : In w k b) (hb : 0 < b) (ne : w k ≠ w b) (g : Lg w b c) : In w k c ∧ c < b := by
  refine ⟨⟨h.1.trans g.1, fun j hj => ?_⟩, g.1.1⟩
  have h1 := h.2 j hj
  obtain ⟨h2, h3⟩ := hj.down
  have : j ≠ b := fun z => ne (by rw [← h3, z])
  exact g.2 j (h.1.inner h2 (by omega))
theorem In.found {w : Nat → Int} {k b : Nat} (h : In w k b) (e : w k = w b) : Lg w (k + 1) (b + 1) := by
  refine ⟨h.1.up e.symm, fun j hj => ?_⟩
  cases j with
  | zero => omega
  | succ j => exact Nat.succ_le_succ (h.2 j hj)
theorem In.none {w : Nat → Int} {k : Nat} (h : In w k 0) (ne : w k ≠ w 0) : Lg w (k + 1) 0 := by
  refine ⟨Bd.zero (by omega), fun j hj => ?_⟩
  cases j with
  | zero => omega
  | succ j =>
    have h1 := h.2 j hj
    have : j = 0 := by omega
    subst this
    exact absurd hj.down.2.symm ne
/-! periods -/
/-- the letters of the word without end that repeats the first n letters -/
def cyc (w : Nat → Int) (n i : Nat) : Int := w (i % n)
def Rp (w : Nat → Int) (n p : Nat) : Prop := ∀ i, cyc w n (i + p) = cyc w n i
theorem Rp.mul {w : Nat → Int} {n p : Nat} (h : Rp w n p) : ∀ k i, cyc w n (i + k * p) = cyc w n i
  | 0, i => by rw [Nat.zero_mul, Nat.add_zero]
  | k + 1, i => by
    rw [Nat.succ_mul, ← Nat.add_assoc, h, h.mul k i]
theorem Rp.mod {w : Nat → Int} {n p i : Nat} (h : Rp w n p) : cyc w n i = cyc w n (i % p) := by
  have := h.mul (i / p) (i % p)
  rw [Nat.mul_comm, Nat.mod_add_div] at this
  exact this
theorem cyc_lt {w : Nat → Int} {n i : Nat} (h : i < n) : cyc w n i = w i := by
  unfold cyc
  rw [Nat.mod_eq_of_lt h]
theorem rp_self (w : Nat → Int) (n : Nat) : Rp w n n := fun i => by
  unfold cyc
  rw [Nat.add_mod_right]
/-- a period of the finite word that divides its length is one of the word without end -/
theorem rp_of {w : Nat → Int} {n p : Nat} (hp : 0 < p) (hd : p ∣ n) (hn : 0 < n) (h : ∀ i, i + p < n → w i = w (i + p)) : Rp w n p := by
  have red : ∀ k i, i + k * p < n → w (i + k * p) = w i := by
    intro k
    induction k with
    | zero => intro i _; rw [Nat.zero_mul, Nat.add_zero]
    | succ k ih =>
      intro i hi
      rw [Nat.succ_mul] at hi ⊢
      rw [← Nat.add_assoc, ← h (i + k * p) (by omega)]
      exact ih i (by omega)
  have toMod : ∀ i, cyc w n i = w (i % p) := by
    intro i
    unfold cyc
    have h1 : i % n < n := Nat.mod_lt _ hn
    have e : i % n % p + (i % n / p) * p = i % n := by
      rw [Nat.mul_comm]
      exact Nat.mod_add_div _ _
    have h2 := red (i % n / p) (i % n % p) (by rw [e]; exact h1)
    rw [e] at h2
    rw [h2, Nat.mod_mod_of_dvd _ hd]
  intro i
  rw [toMod, toMod, Nat.add_mod_right]
/-- the least repetition: r divides n, the word repeats its first r letters, and no shorter one does -/
structure Least (w : Nat → Int) (n r : Nat) : Prop where
  pos : 0 < r
  dvd : r ∣ n
  rp : Rp w n r
  min : ∀ p, 0 < p → p ∣ n → Rp w n p → r ≤ p
theorem least_of {w : Nat → Int} {n b : Nat} (hn : 0 < n) (h : Lg w n b) : Least w n (if n % (n - b) = 0 then n - b else n) := by
  obtain ⟨⟨hb, h1⟩, h2⟩ := h
  have hs : 0 < n - b := by omega
  -- n - b is the least period of the finite word
  have per : ∀ i, i + (n - b) < n → w i = w (i + (n - b)) := fun i hi => by
    have := h1 i (by omega)
    rw [this]
    congr 1
    omega
  have low : ∀ p, 0 < p → p ≤ n → (∀ i, i + p < n → w i = w (i + p)) → n - b ≤ p := fun p hp hpn hq => by
    have := h2 (n - p) ⟨by omega, fun i hi => by
      have := hq i (by omega)
      rw [this]
      congr 1
      omega⟩
    omega
  have fin : ∀ p, Rp w n p → ∀ i, i + p < n → w i = w (i + p) := fun p hp i hi => by
    have := hp i
    rw [cyc_lt hi, cyc_lt (by omega)] at this
    exact this.symm
  -- a shorter repetition makes n - b a repetition
  have key : ∀ p, 0 < p → p ∣ n → p < n → Rp w n p → n % (n - b) = 0 ∧ n - b ≤ p := by
    intro p hp hd hlt hr
    have le := low p hp (by omega) (fin p hr)
    obtain ⟨q, hq⟩ := hd
    have hq2 : 2 ≤ q := by
      rcases Nat.lt_or_ge q 2 with c | c
      · have : q = 0 ∨ q = 1 := by omega
        rcases this with z | z
        · rw [z] at hq; omega
        · rw [z] at hq; omega
      · exact c
    have h2p : 2 * p ≤ n := by
      rw [hq, Nat.mul_comm 2 p]
      exact Nat.mul_le_mul_left p hq2
    have rs : Rp w n (n - b) := by
      intro i
      have e1 : cyc w n (i + (n - b)) = cyc w n (i % p + (n - b)) := by
        have := hr.mul (i / p) (i % p + (n - b))
        rw [← this]
        congr 1
        have := Nat.mod_add_div i p
        rw [Nat.mul_comm (i / p) p]
        omega
      have hm : i % p < p := Nat.mod_lt _ hp
      rw [e1, hr.mod (i := i), cyc_lt (show i % p + (n - b) < n by omega), cyc_lt (show i % p < n by omega)]
      exact (per _ (by omega)).symm
    -- p is a multiple of n - b
    have hmod : p % (n - b) = 0 := by
      rcases Nat.eq_zero_or_pos (p % (n - b)) with z | z
      · exact z
      · have lt : p % (n - b) < n - b := Nat.mod_lt _ hs
        have rm : Rp w n (p % (n - b)) := by
          intro i
          have a := rs.mul (p / (n - b)) (i + p % (n - b))
          have e : i + p % (n - b) + p / (n - b) * (n - b) = i + p := by
            rw [Nat.mul_comm, Nat.add_assoc, Nat.mod_add_div]
          rw [e] at a
          rw [← a]
          exact hr i
        have := low _ z (by omega) (fin _ rm)
        omega
    refine ⟨?_, le⟩
    exact Nat.mod_eq_zero_of_dvd (Nat.dvd_trans (Nat.dvd_of_mod_eq_zero hmod) ⟨q, hq⟩)
  by_cases c : n % (n - b) = 0
  · rw [if_pos c]
    refine ⟨hs, Nat.dvd_of_mod_eq_zero c, rp_of hs (Nat.dvd_of_mod_eq_zero c) hn per, fun p hp hd hr => ?_⟩
    exact low p hp (Nat.le_of_dvd hn hd) (fin p hr)
  · rw [if_neg c]
    refine ⟨hn, Nat.dvd_refl n, rp_self w n, fun p hp hd hr => ?_⟩
    have le := Nat.le_of_dvd hn hd
    rcases Nat.lt_or_ge p n with l | l
    · exact absurd (key p hp hd l hr).1 c
    · exact l
end Wd
/-! ### min(xs, default=d) of a list of ints: own rule -/
namespace MinD
open PySem PySem.W PyProof.Rows
def kwD (d : Value) : List (Str × Value) := [(Str.ofString "default", d)]
theorem nameL : (toString "min" ++ toString ".loop" : String) = "min.loop" := by decide
section
variable {prog : Program} {w : World} {A : Around} {R : Result → Shared → Prop} {I S : Addr} {fp wr : List Addr} {n : Nat} {P : Nat → Value → Prop} {St : Nat → Heap → Prop} {d : Value}
theorem loopD (W : Walks prog w A.in1 I fp wr n P St) (bt : Nat → Nat → Bool) (cm : CmpOf prog w A.in1 .Lt P bt) (nf : S ∉ fp) :
    ∀ (m j : Nat) (u : Shared) (best : Value) (c : Nat), n - (j + 1) = m → j + 1 ≤ n → St (j + 1) u.heap → P (argBest bt j) best →
    u.heap.get? S = some { cls := .type "list", dict := none, data := .seq #[best, best] c, slots := #[] } →
    (∀ v g tk, P (argBest bt (n - 1)) v → (∀ b o, b ∉ wr → b ≠ S → u.heap.get? b = some o → g.get? b = some o) → R (.ok (.ret v)) { u with heap := g, toks := tk }) →
    codeAny (model prog w) A (.builtin "min.loop" ⟨[.ref I, .none, .ref S], kwD d⟩) R u := by
  have nw : S ∉ wr := fun q => nf (W.sub _ q)
  intro m
  induction m with
  | zero =>
    intro j u best c em hj st pb gS out
    have ej : j + 1 = n := by omega
    refine codeAny_builtin PySem.F.entry_min_loop ?_
    rw [Around.under_plainId PySem.F.plain_min_loop _]
    show wpAny _ A.in1 (seqItems? (.ref S) >>= _) _ _ u
    refine wpAny_bind (wpAny_seqItems gS rfl ?_)
    show wpAny _ A.in1 (tryCatch (pyNext (.ref I)) _ >>= _) _ _ u
    refine wpAny_bind (wpAny_tryCatch (W.done u _ _ (ej ▸ st) fun g tk keep => ?_))
    have gS2 := keep S _ nw gS
    show wpAny _ A.in1 (updateSeq S (fun _ => #[]) >>= _) _ _ _
    refine wpAny_bind (wpAny_updateSeq gS2 rfl (wpAny_bind (wpAny_letGo (wpAny_pure ?_))))
    exact out best _ tk (by rw [← ej]; exact pb) fun b o hb hS e => (Heap.get?_update_other _ _ (Ne.symm hS)).trans (keep b o hb e)
  | succ m ih =>
    intro j u best c em hj st pb gS out
    have lt : j + 1 < n := by omega
    refine codeAny_builtin PySem.F.entry_min_loop ?_
    rw [Around.under_plainId PySem.F.plain_min_loop _]
    show wpAny _ A.in1 (seqItems? (.ref S) >>= _) _ _ u
    refine wpAny_bind (wpAny_seqItems gS rfl ?_)
    show wpAny _ A.in1 (tryCatch (pyNext (.ref I)) _ >>= _) _ _ u
    refine wpAny_bind (wpAny_tryCatch (W.item (j + 1) u _ _ lt st fun v g tk pv st2 keep => ?_))
    have gS2 := keep S _ nw gS
    show wpAny _ A.in1 (tryCatch (holding [v, v] (richCompare .Lt v best >>= _)) _ >>= _) _ _ _
    refine wpAny_bind (wpAny_tryCatch (wpAny_holding (wpAny_bind (cm (j + 1) (argBest bt j) v best _ _ _ pv pb ?_))))
    refine wpAny_bind (wpAny_holding (wpAny_truthy_bool (wpAny_bind (wpAny_letGo (wpAny_pure ?_)))))
    cases hb : bt (j + 1) (argBest bt j) with
    | true =>
      simp only [if_true]
      refine wpAny_bind (wpAny_updateSeq gS2 rfl (wpAny_bind (wpAny_letGo ?_)))
      rw [nameL]
      refine wpAny_pure ⟨plainId_quiet PySem.F.plain_min_loop _, ih (j + 1) _ v _ (by omega) lt (W.frame _ _ _ st2 fun b bf o e => ?_) (by simp only [argBest, hb, if_true]; exact pv) (Heap.get?_update_self _ gS2 rfl)
        fun v2 g2 tk2 p2 keep2 => ?_⟩
      · exact (Heap.get?_update_other _ _ (fun q : S = b => nf (by rw [q]; exact bf))).trans e
      · exact out v2 g2 tk2 p2 fun b o hw hS e => keep2 b o hw hS ((Heap.get?_update_other _ _ (Ne.symm hS)).trans (keep b o hw e))
    | false =>
      simp only [Bool.false_eq_true, if_false]
      refine wpAny_bind (wpAny_letGo ?_)
      rw [nameL]
      exact wpAny_pure ⟨plainId_quiet PySem.F.plain_min_loop _, ih (j + 1) _ best c (by omega) lt st2 (by simp only [argBest, hb, Bool.false_eq_true, if_false]; exact pb) gS2 fun v2 g2 tk2 p2 keep2 =>
        out v2 g2 tk2 p2 fun b o hw hS e => keep2 b o hw hS (keep b o hw e)⟩
theorem firstD (W : Walks prog w A.in1 I fp wr n P St) (bt : Nat → Nat → Bool) (cm : CmpOf prog w A.in1 .Lt P bt) (nf : S ∉ fp) {u : Shared} {c : Nat} (st : St 0 u.heap)
    (gS : u.heap.get? S = some { cls := .type "list", dict := none, data := .seq #[] c, slots := #[] })
    (out : ∀ v g tk, (0 < n → P (argBest bt (n - 1)) v) → (n = 0 → v = d) → (∀ b o, b ∉ wr → b ≠ S → u.heap.get? b = some o → g.get? b = some o) → R (.ok (.ret v)) { u with heap := g, toks := tk }) :
    codeAny (model prog w) A (.builtin "min.loop" ⟨[.ref I, .none, .ref S], kwD d⟩) R u := by
  have nw : S ∉ wr := fun q => nf (W.sub _ q)
  refine codeAny_builtin PySem.F.entry_min_loop ?_
  rw [Around.under_plainId PySem.F.plain_min_loop _]
  show wpAny _ A.in1 (seqItems? (.ref S) >>= _) _ _ u
  refine wpAny_bind (wpAny_seqItems gS rfl ?_)
  show wpAny _ A.in1 (tryCatch (pyNext (.ref I)) _ >>= _) _ _ u
  by_cases h0 : 0 < n
  · refine wpAny_bind (wpAny_tryCatch (W.item 0 u _ _ h0 st fun v g tk pv st2 keep => ?_))
    have gS2 := keep S _ nw gS
    show wpAny _ A.in1 (updateSeq S (fun _ => #[v, v]) >>= _) _ _ _
    refine wpAny_bind (wpAny_updateSeq gS2 rfl ?_)
    rw [nameL]
    refine wpAny_pure ⟨plainId_quiet PySem.F.plain_min_loop _, loopD W bt cm nf _ 0 _ v _ rfl h0 (W.frame _ _ _ st2 fun b bf o e => ?_) pv (Heap.get?_update_self _ gS2 rfl) fun v2 g2 tk2 p2 keep2 => ?_⟩
    · exact (Heap.get?_update_other _ _ (fun q : S = b => nf (by rw [q]; exact bf))).trans e
    · exact out v2 g2 tk2 (fun _ => p2) (fun z => by omega) fun b o hw hS e => keep2 b o hw hS ((Heap.get?_update_other _ _ (Ne.symm hS)).trans (keep b o hw e))
  · have e0 : n = 0 := by omega
    refine wpAny_bind (wpAny_tryCatch (W.done u _ _ (by rw [e0]; exact st) fun g tk keep => ?_))
    show wpAny _ A.in1 (rule _ >>= _) _ _ _
    refine wpAny_bind (wpAny_rule (wpAny_pure ?_))
    exact out d g tk (fun z => absurd z h0) (fun _ => rfl) fun b o hw _ e => keep b o hw e
end
section
variable {prog : Program} {w : World} {A : Around} {E : Value → Shared → Prop} {s : Shared} {d : Value}
theorem args_d (a v : Value) : argsOk "min" ⟨[a], kwD v⟩ := by
  unfold argsOk
  kernel_rfl
theorem callD {l : Addr} {xs : Array (Int × Tok)} {Q : Value → Shared → Prop} (hh : A.handled = none) (hl : s.heap.IsList l (intItems xs))
    (h : ∀ v g tk, (0 < xs.size → (intItems xs)[argBest (fun i j => decide (numAt xs i < numAt xs j)) (xs.size - 1)]? = some v) → (xs.size = 0 → v = d) → (∀ b o, s.heap.get? b = some o → g.get? b = some o) → Q v { s with heap := g, toks := tk }) :
    wpAny (model prog w) A (call (.builtin "min") [.ref l] (kwD d)) Q E s := by
  refine kmk_tree PySem.F.kind_min PySem.F.plain_min PySem.F.entry_min (args_d _ _) ?_
  show wpAny _ A.in1 (Builtin.Builtins.bindParams "min" ["key", "default"] 0 ⟨[], kwD d⟩ >>= _) _ _ s
  refine wpAny_bind (wpAny_of_eq (show Builtin.Builtins.bindParams "min" ["key", "default"] 0 ⟨[], kwD d⟩ = pure [none, some d] from rfl) ?_)
  refine wpAny_bind (wpAny_pure ?_)
  refine wpAny_bind (iter_intList hl fun u eu st hfp hlI => ?_)
  subst eu
  refine wpAny_bind (wpAny_newObj_type ?_)
  rw [nameL]
  refine wpAny_pure ⟨plainId_quiet PySem.F.plain_min_loop _, firstD (Walks.list (A := A.in1) hh _ l hlI (intItems xs)) _ (CmpOf.ints_lt (numAt xs) (fun _ _ => intItems_at)) (fun hm => Nat.lt_irrefl _ (hfp _ hm)) ?_ (Heap.get?_push_size _ rfl) fun v g tk p1 p2 keep => ?_⟩
  · exact (Walks.list (prog := prog) (w := w) (A := A.in1) hh _ l hlI (intItems xs)).frame _ _ _ st fun b _ o e => Heap.get?_push_of_some _ e
  · have hsz : (intItems xs).size = xs.size := by simp [intItems]
    refine h v g tk (fun z => by have := p1 (by rw [hsz]; exact z); rw [hsz] at this; exact this) (fun z => p2 (by rw [hsz]; exact z)) (old_kept (l := l) fun b o hb e => ?_)
    exact keep b o hb (Nat.ne_of_lt (Heap.lt_size e)) (Heap.get?_push_of_some _ e)
end
theorem rawD {prog : Program} {w : World} {A : Around} {E : Value → Shared → Prop} {s : Shared} {l : Addr} {its : List Value} {ns : List Int} {z : Int} {t : Tok} {Q : Value → Shared → Prop} (hh : A.handled = none) (hl : s.heap.IsList l its.toArray) (hi : IntsAre its ns)
    (h : ∀ (g : Heap) (tk : Nat) (m : Int) (t' : Tok), (∀ b o, s.heap.get? b = some o → g.get? b = some o) → (ns = [] → m = z) → (ns ≠ [] → m ∈ ns ∧ ∀ y ∈ ns, m ≤ y) → Q (.int m t') { s with heap := g, toks := tk }) :
    wpAny (model prog w) A (call (.builtin "min") [.ref l] (kwD (.int z t))) Q E s := by
  obtain ⟨xs, e⟩ := hi.allInts.items
  have hn : numsOf (intItems xs).toList = ns := by rw [← e]; exact hi.numsOf
  rw [PySem.nums_intItems] at hn
  subst hn
  rw [e] at hl
  refine callD hh hl fun v g tk p1 p2 keep => ?_
  by_cases c : 0 < xs.size
  · obtain ⟨u, rfl⟩ := intItems_at (p1 c)
    obtain ⟨a1, a2⟩ := argBest_lt (numAt xs) (xs.size - 1)
    refine h g tk _ u keep (fun z => ?_) fun _ => ⟨?_, fun y hy => ?_⟩
    · have q : xs.size = 0 := by simpa using congrArg List.length z
      omega
    · rw [PySem.numAt_eq]
      refine PySem.getD_mem ?_
      rw [List.length_map, Array.length_toList]
      exact Nat.lt_of_le_of_lt a1 (by omega)
    · obtain ⟨j, hj, rfl⟩ := PySem.mem_getD hy
      rw [List.length_map, Array.length_toList] at hj
      rw [← PySem.numAt_eq]
      exact a2 j (by omega)
  · rw [p2 (by omega)]
    refine h g tk z t keep (fun _ => rfl) fun q => absurd ?_ q
    have : xs = #[] := Array.eq_empty_of_size_eq_zero (by omega)
    rw [this]
    rfl
end MinD
namespace Bx
open PySem PySem.Spec PyProof.Rows L2
def rMinD (K : PySem.W.Frag) : List V → List V → Hp → VK → Prop := fun xs zs H Q => ∃ (a : Addr) (ns : List Int) (z : Int), xs = [.ref a] ∧ zs = [.int z] ∧ SqL K H a (ns.map V.int) ∧
  ∀ m, (ns = [] → m = z) → (ns ≠ [] → m ∈ ns ∧ ∀ y ∈ ns, m ≤ y) → Q (.int m) H
theorem call_minD {X : Cx} {K : PySem.W.Frag} (h : X.K = K) (hc : X.calm = true) : CallRK X (.builtin "min") ["default"] (rMinD K) := by
  subst h
  intro pins s σ H xs zs us ws Q I r r2 hw
  obtain ⟨a, ns, z, rfl, rfl, hs, q⟩ := hw
  obtain ⟨its, rv, hl, _⟩ := I.list hs
  rw [Vals.ref1 r]
  obtain ⟨u, rfl, ru⟩ := vals1 r2
  obtain ⟨t, rfl⟩ := ru
  exact MinD.rawD (I.ok.hd hc) hl.isList rv.ints fun g tk m t' hk h1 h2 => ⟨.int m, H, I.kept hk, ⟨_, rfl⟩, q m h1 h2⟩
end Bx
namespace Bx
open PySem PySem.Spec PyProof.Rows L2
/-! ### rules over the written part by its name -/
section
variable {X : Cx} {K : PySem.W.Frag}
theorem ix_tupK (h : X.K = K) : IxR X (rIxT K) := h ▸ ix_tup
theorem ix_listK (h : X.K = K) : IxR X (rIxL K) := h ▸ ix_list
theorem ix_seqK (h : X.K = K) : IxR X (rIx K) := h ▸ ix_seq
def rLen (K : PySem.W.Frag) : List V → Hp → VK → Prop := fun xs H Q => ∃ (p : Addr) (ys : List V), xs = [.ref p] ∧ (SqL K H p ys ∨ SqT K H p ys) ∧ Q (.int ys.length) H
theorem call_lenK (h : X.K = K) : CallR X (.builtin "len") (rLen K) := by
  subst h
  exact call_len_seq
def rTupOf (K : PySem.W.Frag) : List V → Hp → VK → Prop := fun xs H Q => ∃ (p : Addr) (ys : List V), xs = [.ref p] ∧ ((SqL K H p ys ∧ ∀ l, H l = none → Q (.ref l) (upd H l (.tup ys))) ∨ (SqT K H p ys ∧ Q (.ref p) H))
theorem call_tuple_ofK (h : X.K = K) : CallR X (.type "tuple") (rTupOf K) := by
  subst h
  exact call_tuple_of
def rLstOf (K : PySem.W.Frag) : List V → Hp → VK → Prop := fun xs H Q => ∃ (p : Addr) (ys : List V), xs = [.ref p] ∧ (SqL K H p ys ∨ SqT K H p ys) ∧ ∀ l, H l = none → Q (.ref l) (upd H l (.lst ys))
theorem call_list_ofK (h : X.K = K) : CallR X (.type "list") (rLstOf K) := by
  subst h
  exact call_list_of
end
end Bx
/-! ### heaps: what one list at d may lose, all else as it was -/
namespace Bx
open PySem PySem.Spec PyProof.Rows L2
def Kp (d : Addr) (H H' : Hp) : Prop := ∀ b o, b ≠ d → H b = some o → H' b = some o
theorem Kp.refl (d : Addr) (H : Hp) : Kp d H H := fun _ _ _ h => h
theorem Kp.trans {d : Addr} {H H1 H2 : Hp} (a : Kp d H H1) (b : Kp d H1 H2) : Kp d H H2 := fun c o n h => b c o n (a c o n h)
theorem Same.kp {d : Addr} {H H' : Hp} (s : Same H H') : Kp d H H' := fun b o _ h => s b o h
theorem Kp.own {d : Addr} {H : Hp} {o : HO} : Kp d H (upd H d o) := fun b _ n h => by rw [upd_ne n]; exact h
theorem same_new {H : Hp} {p : Addr} {o : HO} (h : H p = none) : Same H (upd H p o) := fun b x e => by
  rw [upd_ne (ne_of_none e h)]
  exact e
theorem Kp.new {d p : Addr} {H : Hp} {o : HO} (h : H p = none) : Kp d H (upd H p o) := Same.kp (same_new h)
theorem upd_self {H : Hp} {d : Addr} {o : HO} (h : H d = some o) : upd H d o = H := by
  funext b
  by_cases e : b = d
  · rw [e, upd_same, h]
  · rw [upd_ne e]
/-- a list of ints at d -/
def Ints (H : Hp) (d : Addr) (xs : List Int) : Prop := H d = some (.lst (xs.map V.int))
/-- the draws: some list of ints -/
def Drw (H : Hp) (d : Addr) : Prop := ∃ ds : List Int, H d = some (.lst (ds.map V.int))
theorem Drw.new {H : Hp} {d p : Addr} {o : HO} (h : Drw H d) (n : H p = none) : Drw (upd H p o) d := by
  obtain ⟨ds, e⟩ := h
  exact ⟨ds, same_new n _ _ e⟩
theorem Drw.own {H : Hp} {d : Addr} {ds : List Int} : Drw (upd H d (.lst (ds.map V.int))) d := ⟨ds, upd_same⟩
theorem Drw.same {H H' : Hp} {d : Addr} (h : Drw H d) (s : Same H H') : Drw H' d := by
  obtain ⟨ds, e⟩ := h
  exact ⟨ds, s _ _ e⟩
/-- a tuple of ints -/
def TupI (H : Hp) (a : Addr) (xs : List Int) : Prop := H a = some (.tup (xs.map V.int))
theorem Drw.ne_tup {H : Hp} {d a : Addr} {xs : List V} (h : Drw H d) (e : H a = some (.tup xs)) : a ≠ d := by
  obtain ⟨ds, e2⟩ := h
  exact ne_of e e2 (by intro z; cases z)
/-- a lasso: a pair of tuples of ints -/
def Las (H : Hp) (p : Addr) (h l : List Int) : Prop := ∃ a b, H p = some (.tup [.ref a, .ref b]) ∧ H a = some (.tup (h.map V.int)) ∧ H b = some (.tup (l.map V.int))
theorem Las.keep {H H' : Hp} {d p : Addr} {h l : List Int} (k : Kp d H H') (w : Drw H d) (x : Las H p h l) : Las H' p h l := by
  obtain ⟨a, b, e1, e2, e3⟩ := x
  exact ⟨a, b, k _ _ (w.ne_tup e1) e1, k _ _ (w.ne_tup e2) e2, k _ _ (w.ne_tup e3) e3⟩
theorem Las.same {H H' : Hp} {p : Addr} {h l : List Int} (k : Same H H') (x : Las H p h l) : Las H' p h l := by
  obtain ⟨a, b, e1, e2, e3⟩ := x
  exact ⟨a, b, k _ _ e1, k _ _ e2, k _ _ e3⟩
theorem lenI {xs : List Int} (h : xs.length ≤ 1000000) : (xs.map V.int).length < sizeLine := by
  rw [List.length_map]
  exact Nat.lt_of_le_of_lt h (by decide)
theorem ixN_at {n j : Nat} (h : j < n) : ixN n (j : Int) = some j := by
  unfold ixN
  rw [if_pos (by omega), if_pos (by omega)]
  rfl
theorem set_mapI {xs : List Int} {j : Nat} {v : Int} : (xs.map V.int).set j (.int v) = (xs.set j v).map V.int := by rw [List.map_set]
/-- a list or a tuple of ints -/
def SeqI (H : Hp) (a : Addr) (xs : List Int) : Prop := H a = some (.lst (xs.map V.int)) ∨ H a = some (.tup (xs.map V.int))
theorem SeqI.sq {K : PySem.W.Frag} {H : Hp} {a : Addr} {xs : List Int} (h : SeqI H a xs) : SqL K H a (xs.map V.int) ∨ SqT K H a (xs.map V.int) := by
  rcases h with h | h
  · exact .inl (.of h)
  · exact .inr (.of h)
theorem SeqI.same {H H' : Hp} {a : Addr} {xs : List Int} (k : Same H H') (h : SeqI H a xs) : SeqI H' a xs := by
  rcases h with h | h
  · exact .inl (k _ _ h)
  · exact .inr (k _ _ h)
/-- a pair of lists or tuples of ints -/
def Pr (H : Hp) (p : Addr) (h l : List Int) : Prop := ∃ a b, H p = some (.tup [.ref a, .ref b]) ∧ SeqI H a h ∧ SeqI H b l
theorem Las.pr {H : Hp} {p : Addr} {h l : List Int} (x : Las H p h l) : Pr H p h l := by
  obtain ⟨a, b, e1, e2, e3⟩ := x
  exact ⟨a, b, e1, .inr e2, .inr e3⟩
theorem Pr.same {H H' : Hp} {p : Addr} {h l : List Int} (k : Same H H') (x : Pr H p h l) : Pr H' p h l := by
  obtain ⟨a, b, e1, e2, e3⟩ := x
  exact ⟨a, b, k _ _ e1, e2.same k, e3.same k⟩
/-- an item -/
theorem ixq {K : PySem.W.Frag} {H : Hp} {a : Addr} {xs : List Int} {i : Int} {j : Nat} {v : V} {Q : VK} (h : SeqI H a xs) (ei : i = (j : Int)) (e : (xs.map V.int)[j]? = some v) (q : Q v H) : rIx K (.ref a) (.int i) H Q := by
  subst ei
  rcases h with h | h
  · exact .inl ⟨_, _, _, _, rfl, rfl, .of h, atI_nat e, q⟩
  · exact .inr (.inl ⟨_, _, _, _, rfl, rfl, .of h, atI_nat e, q⟩)
theorem ixq_last {K : PySem.W.Frag} {H : Hp} {a : Addr} {xs : List Int} {z : Int} {Q : VK} (h : SeqI H a xs) (e : xs.getLast? = some z) (q : Q (.int z) H) : rIx K (.ref a) (.int (-1)) H Q := by
  obtain ⟨ys, rfl⟩ := List.getLast?_eq_some_iff.mp e
  have g : atI ((ys ++ [z]).map V.int) (-1) = some (.int z) := by
    rw [List.map_append]
    exact atI_last _ _
  rcases h with h | h
  · exact .inl ⟨_, _, _, _, rfl, rfl, .of h, g, q⟩
  · exact .inr (.inl ⟨_, _, _, _, rfl, rfl, .of h, g, q⟩)
theorem at_map {xs : List Int} {j : Nat} (h : j < xs.length) : (xs.map V.int)[j]? = some (.int (xs.getD j 0)) := by
  rw [List.getElem?_map, List.getElem?_eq_getElem h, List.getD_eq_getElem?_getD, List.getElem?_eq_getElem h]
  rfl
/-! slices -/
section
variable {X : Cx} {K : PySem.W.Frag}
def rSlQ (K : PySem.W.Frag) : V → Option Int → Option Int → Hp → VK → Prop := fun x lo hi H Q => rSlL K x lo hi H Q ∨ rSlA K x lo hi H Q
theorem sl_seqK (h : X.K = K) : SlR X (rSlQ K) := by
  subst h
  exact sl_list.or sl_tupA
theorem sl_tupK (h : X.K = K) : SlR X (rSlA K) := by
  subst h
  exact sl_tupA
theorem sl_listK (h : X.K = K) : SlR X (rSlL K) := by
  subst h
  exact sl_list
theorem op_catK (h : X.K = K) : OpR X (binaryOp .Add) (rCatA K) := by
  subst h
  exact op_catA
theorem op_repTK (h : X.K = K) : OpR X (binaryOp .Mult) (rRepT K) := by
  subst h
  exact op_repT
theorem op_eqDK (h : X.K = K) (hu : X.A.units + 64 < cLine) : OpR X (compareOp .Eq) (rEqD K) := by
  subst h
  exact op_eqD hu
theorem op_neDK (h : X.K = K) (hu : X.A.units + 64 < cLine) : OpR X (compareOp .NotEq) (rNeD K) := by
  subst h
  exact op_neD hu
theorem call_minK (h : X.K = K) (hc : X.calm = true) : CallR X (.builtin "min") (rMin K) := by
  subst h
  exact cr_min hc
theorem call_isiK' (h : X.K = K) : CallR X (.builtin "isinstance") (rIsi K) := by
  subst h
  exact call_isi
end
theorem cut_map {xs : List Int} {lo hi : Option Int} : cutV (xs.map V.int) lo hi = ((xs.drop (HT.sIx xs.length 0 lo)).take (HT.sIx xs.length xs.length hi - HT.sIx xs.length 0 lo)).map V.int := by
  unfold cutV
  rw [List.length_map, List.map_take, List.map_drop]
/-- a slice of a tuple -/
theorem slt {K : PySem.W.Frag} {H : Hp} {a : Addr} {xs ys : List Int} {lo hi : Option Int} {Q : VK} (h : TupI H a xs) (e : (xs.drop (HT.sIx xs.length 0 lo)).take (HT.sIx xs.length xs.length hi - HT.sIx xs.length 0 lo) = ys)
    (q : ∀ (H' : Hp) (p : Addr), Same H H' → TupI H' p ys → Q (.ref p) H') : rSlA K (.ref a) lo hi H Q := by
  subst e
  refine ⟨a, _, rfl, .of h, fun w => ?_, fun _ p hp => q _ p (same_new hp) ?_⟩
  · refine q H a (Same.refl H) ?_
    rw [List.length_map] at w
    rw [w.1, w.2, List.drop_zero, Nat.sub_zero, List.take_length]
    exact h
  · unfold TupI
    rw [upd_same, cut_map]
/-- a slice of a list or tuple -/
theorem slq {K : PySem.W.Frag} {H : Hp} {a : Addr} {xs ys : List Int} {lo hi : Option Int} {Q : VK} (h : SeqI H a xs) (e : (xs.drop (HT.sIx xs.length 0 lo)).take (HT.sIx xs.length xs.length hi - HT.sIx xs.length 0 lo) = ys)
    (q : ∀ (H' : Hp) (p : Addr), Same H H' → SeqI H' p ys → Q (.ref p) H') : rSlQ K (.ref a) lo hi H Q := by
  rcases h with h | h
  · subst e
    refine .inl ⟨a, _, rfl, .of h, fun p hp => q _ p (same_new hp) (.inl ?_)⟩
    rw [upd_same, cut_map]
  · exact .inr (slt h e fun H' p s t => q H' p s (.inr t))
theorem cut_to (xs : List Int) (n : Nat) : (xs.drop (HT.sIx xs.length 0 none)).take (HT.sIx xs.length xs.length (some (n : Int)) - HT.sIx xs.length 0 none) = xs.take n := by
  rw [HT.sIx_none, HT.sIx_nat, List.drop_zero, Nat.sub_zero]
  rcases Nat.le_total n xs.length with c | c
  · rw [Nat.min_eq_left c]
  · rw [Nat.min_eq_right c, List.take_length, List.take_of_length_le c]
theorem cut_from (xs : List Int) {n : Nat} (hn : n ≤ xs.length) : (xs.drop (HT.sIx xs.length 0 (some (n : Int)))).take (HT.sIx xs.length xs.length none - HT.sIx xs.length 0 (some (n : Int))) = xs.drop n := by
  rw [HT.sIx_none, HT.sIx_nat, Nat.min_eq_left hn]
  exact List.take_of_length_le (by rw [List.length_drop]; exact Nat.le_refl _)
theorem slt_to {K : PySem.W.Frag} {H : Hp} {a : Addr} {xs : List Int} {k : Int} {n : Nat} {Q : VK} (h : TupI H a xs) (ek : k = (n : Int))
    (q : ∀ (H' : Hp) (p : Addr), Same H H' → TupI H' p (xs.take n) → Q (.ref p) H') : rSlA K (.ref a) none (some k) H Q := by
  subst ek
  exact slt h (cut_to xs n) q
theorem slt_from {K : PySem.W.Frag} {H : Hp} {a : Addr} {xs : List Int} {k : Int} {n : Nat} {Q : VK} (h : TupI H a xs) (ek : k = (n : Int)) (hn : n ≤ xs.length)
    (q : ∀ (H' : Hp) (p : Addr), Same H H' → TupI H' p (xs.drop n) → Q (.ref p) H') : rSlA K (.ref a) (some k) none H Q := by
  subst ek
  exact slt h (cut_from xs hn) q
theorem slq_to {K : PySem.W.Frag} {H : Hp} {a : Addr} {xs : List Int} {k : Int} {n : Nat} {Q : VK} (h : SeqI H a xs) (ek : k = (n : Int))
    (q : ∀ (H' : Hp) (p : Addr), Same H H' → SeqI H' p (xs.take n) → Q (.ref p) H') : rSlQ K (.ref a) none (some k) H Q := by
  subst ek
  exact slq h (cut_to xs n) q
theorem slq_mid {K : PySem.W.Frag} {H : Hp} {a : Addr} {xs : List Int} {k k2 : Int} {n m : Nat} {Q : VK} (h : SeqI H a xs) (ek : k = (n : Int)) (ek2 : k2 = (m : Int)) (hn : n ≤ xs.length) (hm : m ≤ xs.length)
    (q : ∀ (H' : Hp) (p : Addr), Same H H' → SeqI H' p ((xs.drop n).take (m - n)) → Q (.ref p) H') : rSlQ K (.ref a) (some k) (some k2) H Q := by
  subst ek
  subst ek2
  refine slq h ?_ q
  rw [HT.sIx_nat, HT.sIx_nat, Nat.min_eq_left hn, Nat.min_eq_left hm]
/-- tuple(x) -/
theorem tupq {K : PySem.W.Frag} {H : Hp} {a : Addr} {xs : List Int} {Q : VK} (h : SeqI H a xs) (q : ∀ (H' : Hp) (p : Addr), Same H H' → TupI H' p xs → Q (.ref p) H') : rTupOf K [.ref a] H Q := by
  rcases h with h | h
  · exact ⟨a, _, rfl, .inl ⟨.of h, fun p hp => q _ p (same_new hp) upd_same⟩⟩
  · exact ⟨a, _, rfl, .inr ⟨.of h, q H a (Same.refl H) h⟩⟩
/-- x + y of tuples -/
theorem catq {K : PySem.W.Frag} {H : Hp} {a b : Addr} {xs ys : List Int} {Q : VK} (h : TupI H a xs) (g : TupI H b ys) (hl : xs.length + ys.length ≤ 1000000) (q : ∀ (H' : Hp) (p : Addr), Same H H' → TupI H' p (xs ++ ys) → Q (.ref p) H') : rCatA K (.ref a) (.ref b) H Q := by
  refine ⟨a, b, _, _, rfl, rfl, .of h, .of g, ?_, fun z => ?_, fun _ z => ?_, fun _ _ p hp => ?_⟩
  · rw [List.length_map, List.length_map]
    exact Nat.le_trans hl (by decide)
  · have e : xs = [] := List.map_eq_nil_iff.mp z
    refine q H b (Same.refl H) ?_
    rw [e]
    exact g
  · have e : ys = [] := List.map_eq_nil_iff.mp z
    refine q H a (Same.refl H) ?_
    rw [e, List.append_nil]
    exact h
  · refine q _ p (same_new hp) ?_
    unfold TupI
    rw [upd_same, List.map_append]
/-- a slice of a list -/
theorem sll_from {K : PySem.W.Frag} {H : Hp} {a : Addr} {xs : List Int} {k : Int} {n : Nat} {Q : VK} (h : H a = some (.lst (xs.map V.int))) (ek : k = (n : Int)) (hn : n ≤ xs.length)
    (q : ∀ p, H p = none → Q (.ref p) (upd H p (.lst ((xs.drop n).map V.int)))) : rSlL K (.ref a) (some k) none H Q := by
  subst ek
  refine ⟨a, _, rfl, .of h, fun p hp => ?_⟩
  rw [cut_map, cut_from xs hn]
  exact q p hp
theorem sll_to {K : PySem.W.Frag} {H : Hp} {a : Addr} {xs : List Int} {k : Int} {n : Nat} {Q : VK} (h : H a = some (.lst (xs.map V.int))) (ek : k = (n : Int))
    (q : ∀ p, H p = none → Q (.ref p) (upd H p (.lst ((xs.take n).map V.int)))) : rSlL K (.ref a) none (some k) H Q := by
  subst ek
  refine ⟨a, _, rfl, .of h, fun p hp => ?_⟩
  rw [cut_map, cut_to xs n]
  exact q p hp
/-! == of data -/
theorem eqvAll_int : ∀ xs ys : List Int, PyData.eqvAll (xs.map PyData.int) (ys.map PyData.int) = decide (xs = ys)
  | [], [] => by simp [PyData.eqvAll]
  | [], y :: ys => by simp [PyData.eqvAll]
  | x :: xs, [] => by simp [PyData.eqvAll]
  | x :: xs, y :: ys => by
    rw [List.map_cons, List.map_cons, PyData.eqvAll, eqvAll_int xs ys, PyData.eqv]
    by_cases c : x = y
    · by_cases d : xs = ys
      · simp [c, d]
      · simp [c, d]
    · simp [c]
theorem eqv_tup (xs ys : List Int) : PyData.eqv (.tuple (xs.map PyData.int)) (.tuple (ys.map PyData.int)) = decide (xs = ys) := by
  rw [PyData.eqv]
  exact eqvAll_int xs ys
theorem eqv_lst (xs ys : List Int) : PyData.eqv (.list (xs.map PyData.int)) (.list (ys.map PyData.int)) = decide (xs = ys) := by
  rw [PyData.eqv]
  exact eqvAll_int xs ys
theorem layAll : ∀ xs : List Int, PyData.canLayAll0 (xs.map PyData.int) = true
  | [] => rfl
  | x :: xs => by
    rw [List.map_cons, PyData.canLayAll0, layAll xs]
    rfl
theorem depAll : ∀ xs : List Int, PyData.depthAll (xs.map PyData.int) = 0
  | [] => by simp [PyData.depthAll]
  | x :: xs => by
    rw [List.map_cons, PyData.depthAll, depAll xs]
    simp [PyData.depth]
theorem shaped_tup (xs : List Int) : SeqAt.shaped (.tuple (xs.map PyData.int)) = true := by
  unfold SeqAt.shaped
  rw [PyData.canLay0, layAll, PyData.depth, depAll]
  rfl
theorem shaped_lst (xs : List Int) : SeqAt.shaped (.list (xs.map PyData.int)) = true := by
  unfold SeqAt.shaped
  rw [PyData.canLay0, layAll, PyData.depth, depAll]
  rfl
theorem dpAll_int {K : PySem.W.Frag} {H : Hp} : ∀ xs : List Int, DpAll K H (xs.map V.int) (xs.map PyData.int)
  | [] => .nil
  | x :: xs => .cons (.int x) (dpAll_int xs)
theorem dp_lst {K : PySem.W.Frag} {H : Hp} {a : Addr} {xs : List Int} (h : H a = some (.lst (xs.map V.int))) : Dp K H (.ref a) (.list (xs.map PyData.int)) := .lst (.of h) (dpAll_int xs)
theorem dp_tup {K : PySem.W.Frag} {H : Hp} {a : Addr} {xs : List Int} (h : TupI H a xs) : Dp K H (.ref a) (.tuple (xs.map PyData.int)) := .tup (.of h) (dpAll_int xs)
theorem ite_ne {x y : Int} {A B : Prop} (h1 : x ≠ y → A) (h2 : x = y → B) : if (!decide (V.int x = V.int y)) = true then A else B := by
  by_cases c : x = y
  · rw [c, decide_eq_true rfl]
    exact iteF (h2 c)
  · rw [decide_eq_false (fun z => c (V.int.inj z))]
    exact iteT (h1 c)
theorem ite_eq {x y : Int} {A B : Prop} (h1 : x = y → A) (h2 : x ≠ y → B) : if decide (V.int x = V.int y) = true then A else B := by
  by_cases c : x = y
  · rw [c, decide_eq_true rfl]
    exact iteT (h1 c)
  · rw [decide_eq_false (fun z => c (V.int.inj z))]
    exact iteF (h2 c)
theorem ite_lt {x y : Int} {A B : Prop} (h1 : x < y → A) (h2 : y ≤ x → B) : if decide (x < y) = true then A else B := by
  by_cases c : x < y
  · rw [decide_eq_true c]
    exact iteT (h1 c)
  · rw [decide_eq_false c]
    exact iteF (h2 (by omega))
/-! ### the letters of a word -/
def wat (h l : List Int) (t : Nat) : Int := if t < h.length then h.getD t 0 else l.getD ((t - h.length) % l.length) 0
theorem wat_head {h l : List Int} {t : Nat} (c : t < h.length) : (h.map V.int)[t]? = some (.int (wat h l t)) := by
  unfold wat
  rw [if_pos c, List.getElem?_map, List.getElem?_eq_getElem c, List.getD_eq_getElem?_getD, List.getElem?_eq_getElem c]
  rfl
theorem wat_loop {h l : List Int} {t : Nat} (c : ¬ t < h.length) (n : l ≠ []) : (l.map V.int)[(t - h.length) % l.length]? = some (.int (wat h l t)) := by
  have hl : 0 < l.length := List.length_pos_iff.mpr n
  have c2 : (t - h.length) % l.length < l.length := Nat.mod_lt _ hl
  unfold wat
  rw [if_neg c, List.getElem?_map, List.getElem?_eq_getElem c2, List.getD_eq_getElem?_getD, List.getElem?_eq_getElem c2]
  rfl
theorem ix_mod {t n m : Nat} (h : n ≤ t) : ((t : Int) - (n : Int)) % (m : Int) = (((t - n) % m : Nat) : Int) := by
  have e : ((t : Int) - (n : Int)) = ((t - n : Nat) : Int) := by omega
  rw [e]
  rfl
/-! ### promises of the helpers -/
def spTake : Sp := fun vs H Q _ => ∃ (d : Addr) (n : Int), vs = [.ref d, .int n] ∧ Drw H d ∧ 0 < n ∧
  ∀ (r : Int) (ds : List Int), 0 ≤ r → r < n → Q (.int r) (upd H d (.lst (ds.map V.int)))
def spDraws (K : PySem.W.Frag) : Sp := fun vs H Q _ => ∃ (a : Addr) (ns : List Int) (c : Nat), vs = [.ref a, .int c] ∧ SqL K H a (ns.map V.int) ∧ c ≤ 1000 ∧
  ∀ (H' : Hp) (d : Addr), Same H H' → H d = none → Drw H' d → Q (.ref d) H'
def spAt : Sp := fun vs H Q _ => ∃ (p : Addr) (h l : List Int) (t : Nat), vs = [.ref p, .int t] ∧ Pr H p h l ∧ l ≠ [] ∧ Q (.int (wat h l t)) H
def spLasso : Sp := fun vs H Q _ => ∃ (d : Addr) (n : Int) (m : Nat), vs = [.ref d, .int n, .int m] ∧ Drw H d ∧ 0 < n ∧ 0 < m ∧ m ≤ 1000 ∧
  ∀ (H' : Hp) (p : Addr) (h l : List Int), Kp d H H' → Drw H' d → Las H' p h l → h.length ≤ m → l ≠ [] → l.length ≤ m → (∀ x ∈ h, 0 ≤ x ∧ x < n) → (∀ x ∈ l, 0 ≤ x ∧ x < n) → Q (.ref p) H'
/-- v says where f and g first differ below n -/
def IsDiff (f g : Nat → Int) (n : Nat) (v : V) : Prop := (v = .non ∧ ∀ t < n, f t = g t) ∨ ∃ t, t < n ∧ v = .int (t : Nat) ∧ f t ≠ g t ∧ ∀ s < t, f s = g s
theorem IsDiff.uniq {f g : Nat → Int} {n : Nat} {v u : V} (a : IsDiff f g n v) (b : IsDiff f g n u) : v = u := by
  rcases a with ⟨rfl, a⟩ | ⟨t, ht, rfl, a1, a2⟩
  · rcases b with ⟨rfl, b⟩ | ⟨s, hs, rfl, b1, b2⟩
    · rfl
    · exact absurd (a s hs) b1
  · rcases b with ⟨rfl, b⟩ | ⟨s, hs, rfl, b1, b2⟩
    · exact absurd (b t ht) a1
    · rcases Nat.lt_trichotomy t s with c | c | c
      · exact absurd (b2 t c) a1
      · rw [c]
      · exact absurd (a2 s c) b1
theorem IsDiff.swap {f g : Nat → Int} {n : Nat} {v : V} (a : IsDiff f g n v) : IsDiff g f n v := by
  rcases a with ⟨rfl, a⟩ | ⟨t, ht, rfl, a1, a2⟩
  · exact .inl ⟨rfl, fun t h => (a t h).symm⟩
  · exact .inr ⟨t, ht, rfl, a1.symm, fun s h => (a2 s h).symm⟩
def dfn (h1 l1 h2 l2 : List Int) : Nat := max h1.length h2.length + l1.length + l2.length
def spFd : Sp := fun vs H Q _ => ∃ (p q : Addr) (h1 l1 h2 l2 : List Int), vs = [.ref p, .ref q] ∧ Las H p h1 l1 ∧ Las H q h2 l2 ∧ l1 ≠ [] ∧ l2 ≠ [] ∧ dfn h1 l1 h2 l2 ≤ 1000000 ∧
  ∀ v, IsDiff (wat h1 l1) (wat h2 l2) (dfn h1 l1 h2 l2) v → Q v H
theorem max_if (a b : Nat) : (if ((b : Nat) : Int) > (a : Int) then (b : Int) else (a : Int)) = ((max a b : Nat) : Int) := by
  by_cases h : ((b : Nat) : Int) > (a : Int)
  · rw [if_pos h]
    omega
  · rw [if_neg h]
    omega
/-- the letters of a list, by places -/
def lw (l : List Int) : Nat → Int := fun i => l.getD i 0
def spPeriod : Sp := fun vs H Q _ => ∃ (a : Addr) (l : List Int), vs = [.ref a] ∧ SeqI H a l ∧ l ≠ [] ∧ l.length ≤ 1000000 ∧
  ∀ (H' : Hp) (r : Nat), Same H H' → Wd.Least (lw l) l.length r → Q (.int r) H'
/-- the normal form (h', l') of (h, l) -/
structure Short (h l h' l' : List Int) : Prop where
  ne : l' ≠ []
  same : ∀ t, wat h' l' t = wat h l t
  hl : h'.length ≤ h.length
  ll : l'.length ≤ l.length
  last : h' ≠ [] → h'.getLast? ≠ l'.getLast?
  prim : ∀ p, 0 < p → p < l'.length → p ∣ l'.length → ∃ i, i + p < l'.length ∧ lw l' i ≠ lw l' (i + p)
  memH : ∀ x ∈ h', x ∈ h
  memL : ∀ x ∈ l', x ∈ l
/-- the letter of the repeated word at any whole number of turns from where it begins -/
def bk (l : List Int) (r : Nat) (z : Int) : Int := lw l ((z % (r : Int)).toNat)
def rot (l : List Int) (r c : Nat) : List Int := (l.drop c).take (r - c) ++ l.take c
theorem rot_len {l : List Int} {r c : Nat} (hc : c < r) (hr : r ≤ l.length) : (rot l r c).length = r := by
  unfold rot
  rw [List.length_append, List.length_take, List.length_drop, List.length_take]
  omega
theorem lw_get {l : List Int} {i : Nat} (h : i < l.length) : l[i]? = some (lw l i) := by
  unfold lw
  rw [List.getD_eq_getElem?_getD, List.getElem?_eq_getElem h]
  rfl
theorem lw_of {l : List Int} {i : Nat} {x : Int} (h : l[i]? = some x) : lw l i = x := by
  unfold lw
  rw [List.getD_eq_getElem?_getD, h]
  rfl
theorem rot_at {l : List Int} {r c j : Nat} (hc : c < r) (hr : r ≤ l.length) (hj : j < r) : lw (rot l r c) j = lw l ((j + c) % r) := by
  apply lw_of
  unfold rot
  have e1 : ((l.drop c).take (r - c)).length = r - c := by
    rw [List.length_take, List.length_drop]
    omega
  rcases Nat.lt_or_ge j (r - c) with h | h
  · rw [List.getElem?_append_left (by rw [e1]; exact h), List.getElem?_take, if_pos h, List.getElem?_drop, Nat.mod_eq_of_lt (by omega), Nat.add_comm c j]
    exact lw_get (by omega)
  · rw [List.getElem?_append_right (by rw [e1]; exact h), e1, List.getElem?_take, if_pos (by omega)]
    have e2 : (j + c) % r = j - (r - c) := by
      rw [Nat.mod_eq_sub_mod (by omega), Nat.mod_eq_of_lt (by omega)]
      omega
    rw [e2]
    exact lw_get (by omega)
theorem bk_shift {l : List Int} {r : Nat} {a b z : Int} (h : a = b + r * z) : bk l r a = bk l r b := by
  unfold bk
  rw [h, Int.add_mul_emod_self_left]
theorem bk_nat {l : List Int} {r t : Nat} : bk l r (t : Int) = lw l (t % r) := rfl
theorem least_le {w : Nat → Int} {n r : Nat} (hn : 0 < n) (L : Wd.Least w n r) : r ≤ n := Nat.le_of_dvd hn L.dvd
/-- the letters of l repeated, by the least repetition -/
theorem cyc_least {l : List Int} {r : Nat} (hn : 0 < l.length) (L : Wd.Least (lw l) l.length r) (i : Nat) : lw l (i % l.length) = bk l r (i : Int) := by
  have h1 : Wd.cyc (lw l) l.length i = Wd.cyc (lw l) l.length (i % r) := L.rp.mod
  have h2 : Wd.cyc (lw l) l.length (i % r) = lw l (i % r) := Wd.cyc_lt (Nat.lt_of_lt_of_le (Nat.mod_lt _ L.pos) (least_le hn L))
  rw [bk_nat, ← h2, ← h1]
  rfl
theorem cut_lt {r : Nat} (hr : 0 < r) (z : Int) : (z % (r : Int)).toNat < r := by
  have h1 := Int.emod_nonneg z (show (r : Int) ≠ 0 by omega)
  have h2 := Int.emod_lt_of_pos z (show (0 : Int) < (r : Int) by omega)
  omega
theorem cut_int {r : Nat} (hr : 0 < r) (z : Int) : (((z % (r : Int)).toNat : Nat) : Int) = z - r * (z / r) := by
  have h1 := Int.emod_nonneg z (show (r : Int) ≠ 0 by omega)
  rw [Int.toNat_of_nonneg h1, Int.emod_def]
theorem rot_bk {l : List Int} {r : Nat} (hr0 : 0 < r) (hr : r ≤ l.length) (z : Int) (j : Nat) : lw (rot l r (z % (r : Int)).toNat) (j % r) = bk l r ((j : Int) + z) := by
  rw [rot_at (cut_lt hr0 z) hr (Nat.mod_lt _ hr0), Nat.mod_add_mod]
  have h : bk l r (((j + (z % (r : Int)).toNat : Nat)) : Int) = bk l r ((j : Int) + z) := bk_shift (z := -(z / r)) (by
    rw [Int.natCast_add, cut_int hr0, Int.mul_neg]
    omega)
  rw [← h]
  rfl
theorem short_of {h l : List Int} {r k : Nat} (hne : l ≠ []) (L : Wd.Least (lw l) l.length r) (hk : k ≤ h.length)
    (hB : ∀ t, k ≤ t → t < h.length → lw h t = bk l r ((t : Int) - (h.length : Int))) (hX : k = 0 ∨ lw h (k - 1) ≠ bk l r ((k : Int) - 1 - (h.length : Int))) :
    Short h l (h.take k) (rot l r (((k : Int) - (h.length : Int)) % (r : Int)).toNat) := by
  have hn : 0 < l.length := List.length_pos_iff.mpr hne
  have hr0 := L.pos
  have hr := least_le hn L
  have hlen := rot_len (cut_lt hr0 ((k : Int) - (h.length : Int))) hr
  have htk : (h.take k).length = k := by
    rw [List.length_take]
    omega
  refine ⟨fun z => ?_, fun t => ?_, by rw [htk]; exact hk, by rw [hlen]; exact hr, fun hh => ?_, fun p hp hpl hpd => ?_, fun x hx => List.mem_of_mem_take hx, fun x hx => ?_⟩
  · rw [z] at hlen
    have : (0 : Nat) = r := hlen
    omega
  · unfold wat
    rw [htk, hlen]
    by_cases c : t < k
    · rw [if_pos c, if_pos (by omega), List.getD_eq_getElem?_getD, List.getD_eq_getElem?_getD, List.getElem?_take, if_pos c]
    · rw [if_neg c]
      have e1 := rot_bk (l := l) hr0 hr ((k : Int) - (h.length : Int)) (t - k)
      have e2 : ((t - k : Nat) : Int) + ((k : Int) - (h.length : Int)) = (t : Int) - (h.length : Int) := by omega
      rw [e2] at e1
      show lw _ _ = _
      rw [e1]
      by_cases d : t < h.length
      · rw [if_pos d]
        exact (hB t (by omega) d).symm
      · rw [if_neg d]
        have e3 : (t : Int) - (h.length : Int) = ((t - h.length : Nat) : Int) := by omega
        rw [e3]
        exact (cyc_least hn L _).symm
  · have hk0 : k ≠ 0 := fun z => hh (by rw [z]; rfl)
    rcases hX with z | z
    · exact absurd z hk0
    · rw [List.getLast?_eq_getElem?, List.getLast?_eq_getElem?, htk, hlen]
      rw [List.getElem?_take, if_pos (by omega), lw_get (show k - 1 < h.length by omega), lw_get (show r - 1 < (rot l r _).length by rw [hlen]; omega)]
      intro q
      refine z ?_
      rw [Option.some.inj q]
      have e1 := rot_bk (l := l) hr0 hr ((k : Int) - (h.length : Int)) (r - 1)
      rw [Nat.mod_eq_of_lt (show r - 1 < r by omega)] at e1
      rw [e1]
      exact bk_shift (z := 1) (by omega)
  · rw [hlen] at hpl hpd ⊢
    apply Classical.byContradiction
    intro hno
    have hall : ∀ i, i + p < r → lw (rot l r (((k : Int) - (h.length : Int)) % (r : Int)).toNat) i = lw (rot l r (((k : Int) - (h.length : Int)) % (r : Int)).toNat) (i + p) := fun i hi =>
      Classical.byContradiction fun q => hno ⟨i, hi, q⟩
    have hrp := Wd.rp_of hp hpd hr0 hall
    have key : ∀ i, Wd.cyc (lw l) l.length i = Wd.cyc (lw (rot l r (((k : Int) - (h.length : Int)) % (r : Int)).toNat)) r (i + (r - (((k : Int) - (h.length : Int)) % (r : Int)).toNat)) := by
      intro i
      have hc := cut_lt hr0 ((k : Int) - (h.length : Int))
      have a1 : Wd.cyc (lw l) l.length i = bk l r (i : Int) := cyc_least hn L i
      have a2 := rot_at hc hr (Nat.mod_lt (i + (r - (((k : Int) - (h.length : Int)) % (r : Int)).toNat)) hr0)
      rw [a1]
      show _ = lw _ (_ % r)
      rw [a2, Nat.mod_add_mod, show i + (r - (((k : Int) - (h.length : Int)) % (r : Int)).toNat) + (((k : Int) - (h.length : Int)) % (r : Int)).toNat = i + r by omega, Nat.add_mod_right]
      rfl
    have hR : Wd.Rp (lw l) l.length p := fun i => by
      rw [key, key, Nat.add_right_comm]
      exact hrp _
    have := L.min p hp (Nat.dvd_trans hpd L.dvd) hR
    omega
  · unfold rot at hx
    rcases List.mem_append.mp hx with z | z
    · exact List.mem_of_mem_drop (List.mem_of_mem_take z)
    · exact List.mem_of_mem_take z
theorem rp_mod {w : Nat → Int} {n p q : Nat} (hp : Wd.Rp w n p) (hq : Wd.Rp w n q) : Wd.Rp w n (q % p) := fun i => by
  have a := hp.mul (q / p) (i + q % p)
  rw [Nat.mul_comm, Nat.add_assoc, Nat.mod_add_div] at a
  rw [← a]
  exact hq i
theorem rp_gcd {w : Nat → Int} {n : Nat} (p q : Nat) : Wd.Rp w n p → Wd.Rp w n q → Wd.Rp w n (Nat.gcd p q) := by
  induction p, q using Nat.gcd.induction with
  | H0 q => intro _ hq; rw [Nat.gcd_zero_left]; exact hq
  | H1 p q hp ih => intro h1 h2; rw [Nat.gcd_rec]; exact ih (rp_mod h1 h2) h1
/-- the normal form -/
structure Nrm (h l : List Int) : Prop where
  ne : l ≠ []
  last : h ≠ [] → h.getLast? ≠ l.getLast?
  prim : ∀ p, 0 < p → p < l.length → p ∣ l.length → ∃ i, i + p < l.length ∧ lw l i ≠ lw l (i + p)
theorem Short.nrm {h l h' l' : List Int} (s : Short h l h' l') : Nrm h' l' := ⟨s.ne, s.last, s.prim⟩
theorem Nrm.pos {h l : List Int} (N : Nrm h l) : 0 < l.length := List.length_pos_iff.mpr N.ne
theorem wat_cyc {h l : List Int} {t : Nat} (c : h.length ≤ t) : wat h l t = Wd.cyc (lw l) l.length (t - h.length) := by
  unfold wat
  rw [if_neg (by omega)]
  rfl
/-- every period that the word has from some turn on is a multiple of the loop's length -/
theorem Nrm.dvd {h l : List Int} (N : Nrm h l) {p M : Nat} (hP : ∀ t, M ≤ t → wat h l (t + p) = wat h l t) : l.length ∣ p := by
  have hr := N.pos
  have hRp : Wd.Rp (lw l) l.length p := fun i => by
    have self := Wd.rp_self (lw l) l.length
    have e1 := self.mul M i
    have e2 := self.mul M (i + p)
    have hM : M ≤ M * l.length := Nat.le_mul_of_pos_right M hr
    have q := hP (h.length + (i + M * l.length)) (by omega)
    rw [wat_cyc (by omega), wat_cyc (by omega)] at q
    rw [show h.length + (i + M * l.length) + p - h.length = i + p + M * l.length by omega, show h.length + (i + M * l.length) - h.length = i + M * l.length by omega, e1, e2] at q
    exact q
  have hg := rp_gcd p l.length hRp (Wd.rp_self (lw l) l.length)
  have gd : Nat.gcd p l.length ∣ l.length := Nat.gcd_dvd_right p l.length
  have gp : 0 < Nat.gcd p l.length := Nat.gcd_pos_of_pos_right p hr
  have gl := Nat.le_of_dvd hr gd
  rcases Nat.lt_or_ge (Nat.gcd p l.length) l.length with c | c
  · obtain ⟨i, hi, hne⟩ := N.prim _ gp c gd
    refine absurd ?_ hne
    have := hg i
    rw [Wd.cyc_lt hi, Wd.cyc_lt (by omega)] at this
    exact this.symm
  · have e : Nat.gcd p l.length = l.length := by omega
    rw [← e]
    exact Nat.gcd_dvd_left p l.length
theorem wat_per {h l : List Int} {t : Nat} (c : h.length ≤ t) : wat h l (t + l.length) = wat h l t := by
  rw [wat_cyc c, wat_cyc (by omega), show t + l.length - h.length = (t - h.length) + l.length by omega]
  exact Wd.rp_self (lw l) l.length _
theorem last_at {l : List Int} (n : l ≠ []) : l.getLast? = some (lw l (l.length - 1)) := by
  have := List.length_pos_iff.mpr n
  rw [List.getLast?_eq_getElem?]
  exact lw_get (by omega)
theorem Nrm.head_le {h l g m : List Int} (N : Nrm h l) (hs : ∀ t, wat h l t = wat g m t) (e : l.length = m.length) : h.length ≤ g.length := by
  rcases Nat.lt_or_ge g.length h.length with c | c
  · exfalso
    have hne : h ≠ [] := List.length_pos_iff.mp (by omega)
    refine N.last hne ?_
    rw [last_at hne, last_at N.ne]
    congr 1
    have hp := N.pos
    have a1 : wat h l (h.length - 1) = lw h (h.length - 1) := by
      unfold wat
      rw [if_pos (by omega)]
      rfl
    have a2 : wat h l (h.length - 1 + l.length) = lw l (l.length - 1) := by
      rw [wat_cyc (by omega), show h.length - 1 + l.length - h.length = l.length - 1 by omega, Wd.cyc_lt (by omega)]
    rw [← a1, ← a2, hs, hs, e]
    exact (wat_per (by omega)).symm
  · exact c
theorem Nrm.uniq {h l g m : List Int} (N : Nrm h l) (M : Nrm g m) (hs : ∀ t, wat h l t = wat g m t) : h = g ∧ l = m := by
  have d1 : l.length ∣ m.length := N.dvd (M := g.length) fun t ht => by
    rw [hs, hs]
    exact wat_per ht
  have d2 : m.length ∣ l.length := M.dvd (M := h.length) fun t ht => by
    rw [← hs, ← hs]
    exact wat_per ht
  have e : l.length = m.length := Nat.dvd_antisymm d1 d2
  have e2 : h.length = g.length := Nat.le_antisymm (N.head_le hs e) (M.head_le (fun t => (hs t).symm) e.symm)
  refine ⟨List.ext_getElem e2 fun i h1 h2 => ?_, List.ext_getElem e fun i h1 h2 => ?_⟩
  · have := hs i
    unfold wat at this
    rw [if_pos h1, if_pos h2, List.getD_eq_getElem?_getD, List.getD_eq_getElem?_getD, List.getElem?_eq_getElem h1, List.getElem?_eq_getElem h2] at this
    exact this
  · have := hs (h.length + i)
    rw [wat_cyc (by omega), wat_cyc (by omega), show h.length + i - h.length = i by omega, show h.length + i - g.length = i by omega, Wd.cyc_lt h1, Wd.cyc_lt h2] at this
    have a1 := lw_get h1
    have a2 := lw_get h2
    rw [List.getElem?_eq_getElem h1] at a1
    rw [List.getElem?_eq_getElem h2] at a2
    rw [Option.some.inj a1, Option.some.inj a2, this]
theorem at_last {l : List Int} (n : l ≠ []) : atI (l.map V.int) (-1) = some (.int (lw l (l.length - 1))) := by
  have hp := List.length_pos_iff.mpr n
  have e : l.map V.int = (l.dropLast.map V.int) ++ [.int (l.getLast n)] := by
    rw [← List.map_singleton, ← List.map_append, List.dropLast_concat_getLast]
  rw [e, atI_last]
  have q := last_at n
  rw [List.getLast?_eq_getLast n] at q
  rw [Option.some.inj q]
/-! repetition of a text -/
theorem flat_at {w : List Int} : ∀ (k i : Nat), i < k * w.length → (List.replicate k w).flatten[i]? = w[i % w.length]?
  | 0, i, h => by
    rw [Nat.zero_mul] at h
    exact absurd h (Nat.not_lt_zero i)
  | k + 1, i, h => by
    rw [List.replicate_succ, List.flatten_cons]
    rcases Nat.lt_or_ge i w.length with c | c
    · rw [List.getElem?_append_left c, Nat.mod_eq_of_lt c]
    · rw [List.getElem?_append_right c, flat_at k (i - w.length) (by rw [Nat.succ_mul] at h; omega), ← Nat.mod_eq_sub_mod c]
theorem flat_per {l : List Int} {p k : Nat} (hp : 0 < p) (hpl : p ≤ l.length) (e : l = (List.replicate k (l.take p)).flatten) (hk : k * p = l.length) : ∀ i, i + p < l.length → lw l i = lw l (i + p) := by
  intro i hi
  have el : (l.take p).length = p := by
    rw [List.length_take]
    omega
  have at_ : ∀ j, j < l.length → l[j]? = (l.take p)[j % p]? := fun j hj => by
    have h0 := flat_at (w := l.take p) k j (by rw [el, hk]; exact hj)
    rw [← e, el] at h0
    exact h0
  have h1 := at_ i (by omega)
  have h2 := at_ (i + p) hi
  rw [Nat.add_mod_right, ← h1, lw_get hi, lw_get (show i < l.length by omega)] at h2
  exact (Option.some.inj h2).symm
def spShort : Sp := fun vs H Q _ => ∃ (a b : Addr) (h l : List Int), vs = [.ref a, .ref b] ∧ SeqI H a h ∧ SeqI H b l ∧ l ≠ [] ∧ h.length ≤ 100000 ∧ l.length ≤ 100000 ∧
  ∀ (H' : Hp) (p : Addr) (h' l' : List Int), Same H H' → Las H' p h' l' → Short h l h' l' → Q (.ref p) H'
/-- what suffix hands back -/
def Suf (h l : List Int) (t : Nat) (h' l' : List Int) : Prop := Nrm h' l' ∧ (∀ i, wat h' l' i = wat h l (t + i)) ∧ h'.length ≤ h.length ∧ l'.length ≤ l.length ∧ (∀ x ∈ h', x ∈ h ∨ x ∈ l) ∧ ∀ x ∈ l', x ∈ l
def spSuffix : Sp := fun vs H Q _ => ∃ (p : Addr) (h l : List Int) (t : Nat), vs = [.ref p, .int t] ∧ Las H p h l ∧ l ≠ [] ∧ h.length ≤ 50000 ∧ l.length ≤ 50000 ∧
  ∀ (H' : Hp) (p' : Addr) (h' l' : List Int), Same H H' → Las H' p' h' l' → Suf h l t h' l' → Q (.ref p') H'
def spMake : Sp := fun vs H Q _ => ∃ (a b : Addr) (h l : List Int), vs = [.ref a, .ref b] ∧ H a = some (.lst (h.map V.int)) ∧ H b = some (.lst (l.map V.int)) ∧ l ≠ [] ∧ h.length ≤ 100000 ∧ l.length ≤ 100000 ∧ (∀ x ∈ h, 0 ≤ x) ∧ (∀ x ∈ l, 0 ≤ x) ∧
  ∀ (H' : Hp) (p : Addr) (h' l' : List Int), Same H H' → Las H' p h' l' → Short h l h' l' → Q (.ref p) H'
theorem suf_drop {h l : List Int} {t : Nat} (c : t < h.length) (i : Nat) : wat (h.drop t) l i = wat h l (t + i) := by
  unfold wat
  rw [List.length_drop]
  by_cases d : t + i < h.length
  · rw [if_pos d, if_pos (by omega), List.getD_eq_getElem?_getD, List.getD_eq_getElem?_getD, List.getElem?_drop]
  · rw [if_neg d, if_neg (by omega), show t + i - h.length = i - (h.length - t) by omega]
theorem suf_turn {h l : List Int} {t : Nat} (hn : l ≠ []) (c : h.length ≤ t) (i : Nat) : wat [] (l.drop ((t - h.length) % l.length) ++ l.take ((t - h.length) % l.length)) i = wat h l (t + i) := by
  have hp : 0 < l.length := List.length_pos_iff.mpr hn
  have hc := Nat.mod_lt (t - h.length) hp
  have e : l.drop ((t - h.length) % l.length) ++ l.take ((t - h.length) % l.length) = rot l l.length ((t - h.length) % l.length) := by
    have e3 : (l.drop ((t - h.length) % l.length)).take (l.length - (t - h.length) % l.length) = l.drop ((t - h.length) % l.length) := List.take_of_length_le (by rw [List.length_drop]; exact Nat.le_refl _)
    unfold rot
    rw [e3]
  rw [e, wat_cyc (Nat.zero_le _), wat_cyc (show h.length ≤ t + i by omega), rot_len hc (Nat.le_refl _)]
  show lw _ (_ % _) = lw _ (_ % _)
  rw [rot_at hc (Nat.le_refl _) (Nat.mod_lt _ hp), Nat.mod_add_mod, Nat.add_mod_mod]
  congr 2
  show i - 0 + _ = _
  omega
def spInts : Sp := fun vs H Q _ => ∃ (a : Addr) (xs : List Int) (lo hi : Int), vs = [.ref a, .int lo, .int hi] ∧ TupI H a xs ∧ (∀ x ∈ xs, lo ≤ x ∧ x < hi) ∧ Q (.bl true) H
def spNormal : Sp := fun vs H Q _ => ∃ (p : Addr) (h l : List Int), vs = [.ref p] ∧ Las H p h l ∧ Nrm h l ∧ l.length ≤ 1000 ∧ ∀ H', Same H H' → Q (.bl true) H'
def spIsLasso : Sp := fun vs H Q _ => ∃ (p : Addr) (h l : List Int) (n : Int), vs = [.ref p, .int n] ∧ Las H p h l ∧ Nrm h l ∧ l.length ≤ 1000 ∧ (∀ x ∈ h, 0 ≤ x ∧ x < n) ∧ (∀ x ∈ l, 0 ≤ x ∧ x < n) ∧ ∀ H', Same H H' → Q (.bl true) H'
/-! the same word in other forms -/
theorem wat_mem {h l : List Int} (n : l ≠ []) (t : Nat) : wat h l t ∈ h ∨ wat h l t ∈ l := by
  have hl : 0 < l.length := List.length_pos_iff.mpr n
  unfold wat
  by_cases c : t < h.length
  · rw [if_pos c, List.getD_eq_getElem?_getD, List.getElem?_eq_getElem c]
    exact .inl (List.getElem_mem c)
  · have c2 := Nat.mod_lt (t - h.length) hl
    rw [if_neg c, List.getD_eq_getElem?_getD, List.getElem?_eq_getElem c2]
    exact .inr (List.getElem_mem c2)
theorem range_getD {f : Nat → Int} {n t : Nat} (c : t < n) : ((List.range n).map f).getD t 0 = f t := by
  rw [List.getD_eq_getElem?_getD, List.getElem?_map, List.getElem?_range c]
  rfl
theorem wat_form {h l : List Int} {m k : Nat} (n : l ≠ []) (hk : 0 < k) (t : Nat) :
    wat ((List.range (h.length + m)).map (wat h l)) ((List.range (k * l.length)).map fun t => wat h l (h.length + m + t)) t = wat h l t := by
  have hl : 0 < l.length := List.length_pos_iff.mpr n
  have hkl : 0 < k * l.length := Nat.mul_pos hk hl
  rw [show wat ((List.range (h.length + m)).map (wat h l)) ((List.range (k * l.length)).map fun t => wat h l (h.length + m + t)) t
      = if t < ((List.range (h.length + m)).map (wat h l)).length then ((List.range (h.length + m)).map (wat h l)).getD t 0 else ((List.range (k * l.length)).map fun t => wat h l (h.length + m + t)).getD ((t - ((List.range (h.length + m)).map (wat h l)).length) % ((List.range (k * l.length)).map fun t => wat h l (h.length + m + t)).length) 0 from rfl]
  rw [List.length_map, List.length_range, List.length_map, List.length_range]
  by_cases c : t < h.length + m
  · rw [if_pos c, range_getD c]
  · rw [if_neg c, range_getD (Nat.mod_lt _ hkl), wat_cyc (by omega), wat_cyc (by omega)]
    show lw l (_ % _) = lw l (_ % _)
    congr 1
    have e1 : h.length + m + (t - (h.length + m)) % (k * l.length) - h.length = m + (t - (h.length + m)) % (k * l.length) := by omega
    have e2 : t - h.length = m + (t - (h.length + m)) := by omega
    rw [e1, e2, ← Nat.add_mod_mod, Nat.mod_mod_of_dvd _ ⟨k, Nat.mul_comm k l.length⟩, Nat.add_mod_mod]
theorem wat_front (f h l : List Int) (i : Nat) : wat (f ++ h) l (f.length + i) = wat h l i := by
  unfold wat
  rw [List.length_append]
  by_cases c : i < h.length
  · rw [if_pos c, if_pos (by omega), List.getD_eq_getElem?_getD, List.getD_eq_getElem?_getD, List.getElem?_append_right (by omega), Nat.add_sub_cancel_left]
  · rw [if_neg c, if_neg (by omega), show f.length + i - (f.length + h.length) = i - h.length by omega]
def dLas (h l : List Int) : PyData := .tuple [.tuple (h.map PyData.int), .tuple (l.map PyData.int)]
theorem dp_las {K : PySem.W.Frag} {H : Hp} {p : Addr} {h l : List Int} (x : Las H p h l) : Dp K H (.ref p) (dLas h l) := by
  obtain ⟨a, b, e1, e2, e3⟩ := x
  exact .tup (.of e1) (.cons (dp_tup e2) (.cons (dp_tup e3) .nil))
theorem shaped_las (h l : List Int) : SeqAt.shaped (dLas h l) = true := by
  unfold SeqAt.shaped dLas
  rw [PyData.canLay0, PyData.canLayAll0, PyData.canLayAll0, PyData.canLayAll0, PyData.canLay0, layAll, PyData.canLay0, layAll, PyData.depth, PyData.depthAll, PyData.depthAll, PyData.depthAll, PyData.depth, depAll, PyData.depth, depAll]
  rfl
theorem eqv_las (h l : List Int) : PyData.eqv (dLas h l) (dLas h l) = true := by
  unfold dLas
  rw [PyData.eqv, PyData.eqvAll, PyData.eqvAll, PyData.eqvAll, eqv_tup, eqv_tup]
  simp
def spCell (K : PySem.W.Frag) : Sp := fun vs H Q _ => ∃ (a : Addr) (ns : List Int) (k : Nat), vs = [.ref a, .int k] ∧ SqL K H a (ns.map V.int) ∧ ∀ v : Int, Q (.int v) H
def spNegX (C : Addr) : Sp := fun vs H _ E => ∃ (p : Addr) (t : Int), vs = [.ref p, .int t] ∧ t < 0 ∧ E (.ref C) none H
def spRefuses : Sp := fun vs H Q _ => ∃ (p : Addr) (t : Int), vs = [.ref p, .int t] ∧ t < 0 ∧ Q (.bl true) H
def spSame : Sp := fun vs H Q _ => ∃ (p q : Addr) (h l h2 l2 : List Int), vs = [.ref p, .ref q] ∧ Pr H p h l ∧ Pr H q h2 l2 ∧ l ≠ [] ∧ l2 ≠ [] ∧ dfn h l h2 l2 ≤ 1000000 ∧ (∀ t, wat h l t = wat h2 l2 t) ∧ Q (.bl true) H
def spMakeX (cE cL : Addr) : Sp := fun vs H Q E => ∃ (a b : Addr) (h l : List Int), vs = [.ref a, .ref b] ∧ H a = some (.lst (h.map V.int)) ∧ H b = some (.lst (l.map V.int)) ∧ h.length ≤ 100000 ∧ l.length ≤ 100000 ∧
  (l = [] → E (.ref cE) none H) ∧ (l ≠ [] → (∃ x, (x ∈ h ∨ x ∈ l) ∧ x < 0) → E (.ref cL) none H) ∧
  (l ≠ [] → (∀ x, x ∈ h ∨ x ∈ l → 0 ≤ x) → ∀ (H' : Hp) (p : Addr) (h' l' : List Int), Same H H' → Las H' p h' l' → Short h l h' l' → Q (.ref p) H')
def spOut : Sp := fun vs H Q _ => ∃ (a b : Addr) (h l : List Int), vs = [.ref a, .ref b] ∧ H a = some (.lst (h.map V.int)) ∧ H b = some (.lst (l.map V.int)) ∧ h.length ≤ 100000 ∧ l.length ≤ 100000 ∧
  (l = [] → ∀ (H' : Hp) (p : Addr), Same H H' → H' p = some (.tup [.str "empty", .bl true]) → Q (.ref p) H') ∧
  (l ≠ [] → (∃ x, (x ∈ h ∨ x ∈ l) ∧ x < 0) → ∀ (H' : Hp) (p : Addr), Same H H' → H' p = some (.tup [.str "letter", .bl true]) → Q (.ref p) H') ∧
  (l ≠ [] → (∀ x, x ∈ h ∨ x ∈ l → 0 ≤ x) → ∀ (H' : Hp) (p q : Addr) (h' l' : List Int), Same H H' → H' p = some (.tup [.str "lasso", .ref q]) → Las H' q h' l' → Short h l h' l' → Q (.ref p) H')
theorem neg_cases (h l : List Int) : (∃ x, (x ∈ h ∨ x ∈ l) ∧ x < 0) ∨ ∀ x, x ∈ h ∨ x ∈ l → 0 ≤ x := by
  by_cases c : ∃ x, (x ∈ h ∨ x ∈ l) ∧ x < 0
  · exact .inl c
  · exact .inr fun x hx => by
      rcases Int.lt_or_le x 0 with z | z
      · exact absurd ⟨x, hx, z⟩ c
      · exact z
def spIsInt : Sp := fun vs H Q _ => ∃ (i : Int), vs = [.int i] ∧ Q (.bl true) H
end Bx
/-! ### own errors, two levels below ValueError -/
namespace Bx
open PySem PySem.Spec PyProof.Rows L2
abbrev veB : List Value := [.type "ValueError", .type "Exception", .type "BaseException", .type "object"]
structure ErrC (K : PySem.W.Frag) (mg : Str → Option Value) (x : Str) (C : Addr) : Prop where
  g : mg x = some (.ref C)
  ex : PySem.W.excIn K C veB "ValueError.__new__" = true
  kp : PySem.W.keepIn K (.ref C) = true
  ty : PySem.W.typeIn K (.ref C) = some (.type "type")
  sf : PySem.W.subIn K (.ref C) (.ref C) = some true
  ec : ExcC K C
theorem ErrC.exm {K : PySem.W.Frag} {mg : Str → Option Value} {x : Str} {C : Addr} {cls : Value} {b : Bool} (e : ErrC K mg x C) (h : PySem.W.subIn K cls (.ref C) = some b) : PySem.W.exmOne K cls (.ref C) = some b := PySem.W.exm_ref e.ec.hs e.ec.hd e.ty h
theorem ErrC.me {K : PySem.W.Frag} {mg : Str → Option Value} {x : Str} {C : Addr} (e : ErrC K mg x C) : PySem.W.exmOne K (.ref C) (.ref C) = some true := e.exm e.sf
/-- raise X('..') -/
theorem ErrC.made {X : Cx} {C : Addr} {x m : Str} {j : Nat} {p p2 pos : Pos} (e : ErrC X.K X.mg x C) (hg : Gl X x) (hd : (x == ("__debug__" : Str)) = false := by decide) : PMk X (.Call (.Name x p) [.Constant (.str m) j p2] [] pos) (fun _ H Q => Q (.ref C) none H) :=
  pmk_own PySem.F.excBase_ValueError e.ex e.g e.kp (raises_own e.ec.hs e.ty) hg hd
/-- isinstance(e, c), e the exception that the suite holds -/
def rIsEx (K : PySem.W.Frag) (a : Addr) (cls : Value) (d : Option Addr) : List V → Hp → VK → Prop := fun xs H Q => ∃ D : Addr, cls = .ref D ∧ d = none ∧ ExcC K D ∧ rIsE K D a xs H Q
theorem call_isEx {X : Cx} {K : PySem.W.Frag} {a : Addr} {cls : Value} {d : Option Addr} {oe : Obj} {pn : List (Addr × Obj)} (h : X.K = K) (hz : Zc cls d oe) (hf : ∃ vs, oe.data = .fields vs) : CallR (X.suite a ((a, oe) :: pn)) (.builtin "isinstance") (rIsEx K a cls d) := by
  subst h
  intro pins s σ H xs us Q I r hw
  obtain ⟨D, rfl, rfl, C, hw⟩ := hw
  exact call_isE C hz hf pins s σ H xs us Q I r hw
/-- a def that may raise, by its name -/
structure CalX (P : Program) (w : World) (K : PySem.W.Frag) (mg : Str → Option Value) (base : Heap) (k : Nat) (x : Str) (sp : Sp) : Prop where
  ex : ∃ (f : Addr) (fd : FuncData) (ps : List Str), FnOk P w K mg base (L2.CX P w) k f fd ps sp ∧ mg x = some (.ref f) ∧ PySem.W.keepIn K (.ref f) = true ∧ Binds K fd ps []
theorem pe_cx {X : Cx} {k j : Nat} {x : Str} {sp : Sp} {W : WX} {p pos : Pos} {e : Expr} {es : List Expr} {t : TA} (c : CalX X.prog X.w X.K X.mg X.base k x sp) (hr : Room j X.A) (hk : k ≤ j) (tk : Takes X W) (hg : Gl X x) (ha : PA X (e :: es) t)
    (hdb : (x == ("__debug__" : Str)) = false := by decide) (he : starEach (e :: es) X.env = (false, eval e X.env) :: starEach es X.env := by rfl) (hpl : (backTo pos (starEach es X.env)).any (·.1) = false := by rfl) :
    PE X (.Call (.Name x p) (e :: es) [] pos) (tCallS sp (WE W) t) := by
  obtain ⟨f, fd, ps, F, hm, kp, b⟩ := c.ex
  exact pe_callS F (hr.mono hk) hg hm kp b (fun σ => passAt tk σ) ha hdb he hpl
end Bx
/-! ### several clauses, each with its name: own rule -/
namespace Bx
open PySem PySem.Spec PyProof.Rows L2
/-- what the clauses wish, one after the other: (class, the name's slot, the suite's reading) -/
def wAll (K : PySem.W.Frag) (Wo : WX) (D : Ends) : List (Value × Nat × (Addr → Value → Option Addr → TS)) → WX
  | [] => Wo
  | (c, i, ts) :: r => fun cls d σ H => ∃ b, PySem.W.exmOne K cls c = some b ∧
    (b = true → ∀ a, H a = none → ts a cls d { nx := fun σ' H' => D.nx (σ'.set i none) H', rt := D.rt, bk := fun σ' H' => D.bk (σ'.set i none) H', ct := fun σ' H' => D.ct (σ'.set i none) H' } (σ.set i (some (.ref a))) H) ∧
    (b = false → wAll K Wo D r cls d σ H)
inductive Clauses (Y : Cx) : List ExceptHandler → List (Value × Nat × (Addr → Value → Option Addr → TS)) → Prop
  | nil : Clauses Y [] []
  | cons {x n : Str} {c : Value} {i : Nat} {ts : Addr → Value → Option Addr → TS} {b0 : Stmt} {suite : List Stmt} {p p' : Pos} {cs : List ExceptHandler} {l : List (Value × Nat × (Addr → Value → Option Addr → TS))}
      (hc : Names Y x c) (hi : Y.N[i]? = some n) (hl : Y.env.kindOf n = some .local)
      (su : ∀ (a : Addr) (oe : Obj) (cls : Value) (d : Option Addr) (pn : List (Addr × Obj)), Zc cls d oe → (∃ vs, oe.data = .fields vs) → PSs (Y.suite a ((a, oe) :: pn)) (b0 :: suite) (ts a cls d)) (r : Clauses Y cs l) :
      Clauses Y (.ExceptHandler (some (.Name x p)) (some n) (b0 :: suite) p' :: cs) ((c, i, ts) :: l)
theorem ps_try_all {Y : Cx} {body : List Stmt} {c0 : ExceptHandler} {cs : List ExceptHandler} {l : List (Value × Nat × (Addr → Value → Option Addr → TS))} {pos : Pos} {tb : WX → TS} {Wo : WX}
    (ks : Y.stack = Y.env :: Y.outer) (kf : Y.env.frame = some Y.env.locals) (kN : Y.N.Nodup) (tk : Takes Y Wo)
    (kb : ∀ (W : WX) (pn : List (Addr × Obj)) (xe : Value → Shared → Prop), Takes (Y.tr pn xe) W → PassesOwn (model Y.prog Y.w) Y.A Y.env xe → PSs (Y.tr pn xe) body (tb W))
    (kh : Clauses Y (c0 :: cs) l) : PS Y (.Try body (c0 :: cs) [] [] pos) (fun D σ H => tb (wAll Y.K Wo D l) D σ H) := by
  refine ⟨fun pins u σ H D I hw => ?_⟩
  have okY := I.ok
  have fr := okY.frames
  rw [ks] at fr
  refine wpAny_Try_except ?_
  refine wpAny_mono ((kb (wAll Y.K Wo D l) (Y.pn ++ pins) (fun e u1 => wpAny (model Y.prog Y.w) Y.A (noteFrame e Y.env) (fun _ u2 => wpAny (model Y.prog Y.w) Y.A (setFlight e none) (fun _ u3 =>
    wpAny (model Y.prog Y.w) Y.A (handleBy e Y.env (c0 :: cs)) (SP Y pins D) Y.xe u3) Y.xe u2) Y.xe u1) (fun v g xx => ?_) PassesOwn.looking).run [] u σ H D (I.toTry _) hw) (fun f u1 q => ?_) (fun e u1 q => q)
  · obtain ⟨a, B, sI, pins1, σ1, H1, cls, d, rfl, Jt, nb, up, sk, na, os, ag, w⟩ := xx
    have J : Inv Y pins σ1 H1 sI := Jt.ofTry okY
    have sk1 : Sky B (Y.env :: Y.outer) a (Zc cls d) Y.env.locals g.heap := by rw [← ks]; exact sk
    show wpAny (model Y.prog Y.w) Y.A (noteFrame (.ref a) Y.env) _ _ _
    refine Sky.land Zc.steady fr kf sk1 fun g3 f3 u3 => ?_
    have I3 : Inv Y pins σ1 H1 { g with heap := g3 } := J.landed nb f3.1 (up.trans u3) os ag
    obtain ⟨o3, w3, at3, z3, dt3⟩ := f3.there
    have apart : ∀ {t : Heap} {o : Obj} {vs : Array Value}, t.FunFrames B (Y.env :: Y.outer) → t.get? a = some o → o.data = .fields vs → a ∉ frs (Y.env :: Y.outer) := fun {t o vs} ff e dd hm => by
      obtain ⟨_, o2, e2, q2⟩ := ff.mem hm
      rw [e] at e2
      cases e2
      exact q2 _ dd
    have n0 := apart f3.2.2.1 at3 dt3
    have nL : a ≠ Y.env.locals := fun z => n0 (List.mem_filterMap.mpr ⟨Y.env, List.mem_cons_self, by rw [kf, z]⟩)
    have nF : a ∉ Y.fs := fun hm => by
      obtain ⟨e, he, q⟩ := List.mem_filterMap.mp hm
      exact n0 (List.mem_filterMap.mpr ⟨e, List.mem_cons_of_mem _ he, q⟩)
    have T3 := I3.suite at3 dt3 na nL nF
    have all : ∀ {cs2 : List ExceptHandler} {l2 : List (Value × Nat × (Addr → Value → Option Addr → TS))}, Clauses Y cs2 l2 → wAll Y.K Wo D l2 cls d σ1 H1 →
        wpAny (model Y.prog Y.w) Y.A (handleBy (.ref a) Y.env cs2) (SP Y pins D) Y.xe { g with heap := g3 } := by
      intro cs2 l2 hk
      induction hk with
      | nil =>
        intro w
        refine wpAny_handleBy_nil ?_
        obtain ⟨_, _, _, oe, vs, T, oT, t2, he, hz, hd, h1, _⟩ := id f3
        unfold PySem.passOn
        refine wpAny_bind (wpAny_field he hd h1 ?_)
        rw [if_neg (show ¬ ((Value.ref T == Value.none) = true) from by simp)]
        have away : wpAny (model Y.prog Y.w) Y.A (setFlight (.ref a) Y.env.frame) (fun _ u4 => wpAny (model Y.prog Y.w) Y.A (throw (.ref a) : Sem Flow) (SP Y pins D) Y.xe u4) Y.xe { g with heap := g3 } := by
          rw [kf]
          refine HandSPX.setFlight_upZ f3 fun g4 q4 u4 => wpAny_throw (tk _ _ ?_)
          exact ⟨a, B, sI, pins, σ1, H1, cls, d, rfl, J, nb, (up.trans u3).trans u4, .inr (.inr (by rw [ks]; exact q4)), na, os, ag, w⟩
        first
          | exact wpAny_bind (wpAny_pure (wpAny_bind away))
          | exact wpAny_bind away
      | @cons x n c i ts b0 suite p p' cs3 l3 hc hi hl su r ih =>
        intro w
        obtain ⟨b, e1, yes, no⟩ := w
        refine wpAny_handleBy_cons (codeAny_handlers_test ?_) (by intro q; cases q)
        have LT : PySem.W.Looks (model Y.prog Y.w) g3 (typeOf (.ref a)) cls := fun A Q E s k q => wpAny_typeOf_ref (k _ _ at3) (by rw [z3.1]; exact q)
        have LM := PySem.W.exm_one (M := model Y.prog Y.w) (I3.kIn) LT e1
        have test : ∀ {Q : Value → Shared → Prop} {E : Value → Shared → Prop}, Q c { g with heap := g3 } → wpAny (model Y.prog Y.w) (Y.A.mark (some (.ref a))) (eval (.Name x p) Y.env) Q E { g with heap := g3 } := fun {Q E} q => by
          obtain ⟨hg, hdb, hm | ⟨hm, hv, hnn⟩⟩ := hc
          · exact ld_glob (X := Y.suite a ((a, o3) :: (Y.pn ++ pins))) T3 hg hm q hdb
          · exact ld_blt (X := Y.suite a ((a, o3) :: (Y.pn ++ pins))) T3 hg hm hv q hnn hdb
        refine test (LM.here ?_)
        cases b with
        | true =>
          refine codeAny_handlers_suite_as ?_
          refine HandSPX.lands_againZ f3 fun g4 f4 u4 => ?_
          have I4 : Inv Y pins σ1 H1 { g with heap := g4 } := J.landed nb f4.1 ((up.trans u3).trans u4) os ag
          obtain ⟨o4, w4, at4, z4, dt4⟩ := f4.there
          have T4 := I4.suite at4 dt4 na nL nF
          refine store_ok (X := Y.suite a ((a, o4) :: (Y.pn ++ pins))) (v := .ref a) T4 kN hi (.inl hl) rfl (fun u5 T5 => ?_) (.inr hl)
          refine wpAny_mono ((su a o4 cls d (Y.pn ++ pins) z4 ⟨_, dt4⟩).run [] u5 _ H1 _ T5 (yes rfl a na)) (fun f u6 q => ?_) (fun _ _ z => False.elim z)
          have fin : ∀ {σ6 : L2.St} {H6 : Hp} {Q : Shared → Prop}, Inv (Y.suite a ((a, o4) :: (Y.pn ++ pins))) [] σ6 H6 u6 → (∀ u7, Inv Y pins (σ6.set i none) H6 u7 → Q u7) →
              wpAny (model Y.prog Y.w) Y.A (do bindName Y.env n .none; unbindBehindTheSuite Y.env n p') (fun _ u7 => Q u7) Y.xe u6 := fun {σ6 H6 Q} T6 hq => gone_ok (T6.unsuite okY) kN hi hl hq
          cases f with
          | next =>
            obtain ⟨_, _, T6, q6⟩ := q
            exact fin T6 fun _ I7 => ⟨_, _, I7, q6⟩
          | brk =>
            obtain ⟨_, _, T6, q6⟩ := q
            exact fin T6 fun _ I7 => ⟨_, _, I7, q6⟩
          | cont =>
            obtain ⟨_, _, T6, q6⟩ := q
            exact fin T6 fun _ I7 => ⟨_, _, I7, q6⟩
          | ret v =>
            obtain ⟨_, _, _, T6, r6, q6⟩ := q
            exact fin T6 fun _ I7 => ⟨_, _, _, I7, r6, q6⟩
        | false =>
          show wpAny _ Y.A (handleBy (.ref a) Y.env cs3) _ _ _
          exact ih (no rfl)
    exact all kh w
  · cases f with
    | next =>
      obtain ⟨_, _, J1, q1⟩ := q
      exact wpAny_execs_nil ⟨_, _, J1.ofTry okY, q1⟩
    | brk =>
      obtain ⟨_, _, J1, q1⟩ := q
      exact ⟨_, _, J1.ofTry okY, q1⟩
    | cont =>
      obtain ⟨_, _, J1, q1⟩ := q
      exact ⟨_, _, J1.ofTry okY, q1⟩
    | ret v =>
      obtain ⟨_, _, _, J1, r1, q1⟩ := q
      exact ⟨_, _, _, J1.ofTry okY, r1, q1⟩
end Bx
/-! ### max of a tuple of ints, lcm: own rules -/
namespace MaxT
open PySem PySem.W PyProof.Rows
section
variable {prog : Program} {w : World} {A : Around} {E : Value → Shared → Prop} {s : Shared}
theorem walkT {l : Addr} {xs : Array (Int × Tok)} {Q : Value → Shared → Prop} (hh : A.handled = none) (ht : s.heap.IsTuple l (intItems xs)) (hne : 0 < xs.size)
    (h : ∀ v g tk, (intItems xs)[argBest (fun i j => decide (numAt xs i > numAt xs j)) (xs.size - 1)]? = some v → (∀ b o, s.heap.get? b = some o → g.get? b = some o) → Q v { s with heap := g, toks := tk }) :
    wpAny (model prog w) A (call (.builtin "max") [.ref l]) Q E s := by
  have ll : l < s.heap.objs.size := by
    obtain ⟨_, e, _⟩ := ht
    exact Heap.lt_size e
  refine call_max_walk (wpAny_pyIter_tuple ht ?_)
  refine ⟨_, _, _, _, _, _, _, rfl, Walks.tuple (A := A.in1) hh _ l (Nat.ne_of_lt ll) (intItems xs), ⟨⟨_, Heap.get?_push_size _ rfl, rfl, rfl⟩, ht.push _⟩, fun c hc => ?_, by simpa [intItems] using hne, CmpOf.ints_gt (numAt xs) (fun _ _ => intItems_at), fun v g tk hP hk => ?_⟩
  · show c < (s.heap.push _).objs.size
    rw [Heap.size_push]
    rcases List.mem_cons.mp hc with rfl | hc
    · exact Nat.lt_succ_self _
    · rcases List.mem_cons.mp hc with rfl | hc
      · exact Nat.lt_succ_of_lt ll
      · cases hc
  · refine h v g tk (by simpa [intItems] using hP) fun b o e => hk b o (fun hm => ?_) (Heap.get?_push_of_some _ e)
    have e1 : b = s.heap.objs.size := List.mem_singleton.mp hm
    rw [e1] at e
    exact absurd (Heap.lt_size e) (Nat.lt_irrefl _)
theorem rawT {l : Addr} {its : List Value} {ns : List Int} {Q : Value → Shared → Prop} (hh : A.handled = none) (hl : IsTup s.heap l its.toArray) (hi : IntsAre its ns) (hne : ns ≠ [])
    (h : ∀ (g : Heap) (tk : Nat) (m : Int) (t' : Tok), (∀ b o, s.heap.get? b = some o → g.get? b = some o) → m ∈ ns → (∀ y ∈ ns, y ≤ m) → Q (.int m t') { s with heap := g, toks := tk }) :
    wpAny (model prog w) A (call (.builtin "max") [.ref l]) Q E s := by
  obtain ⟨xs, e⟩ := hi.allInts.items
  have hn : numsOf (intItems xs).toList = ns := by rw [← e]; exact hi.numsOf
  rw [PySem.nums_intItems] at hn
  subst hn
  rw [e] at hl
  have c : 0 < xs.size := by
    rcases Nat.eq_zero_or_pos xs.size with z | z
    · refine absurd ?_ hne
      have : xs = #[] := Array.eq_empty_of_size_eq_zero z
      rw [this]
      rfl
    · exact z
  refine walkT hh hl c fun v g tk p1 keep => ?_
  obtain ⟨u, rfl⟩ := intItems_at p1
  obtain ⟨a1, a2⟩ := argBest_gt (numAt xs) (xs.size - 1)
  refine h g tk _ u keep ?_ fun y hy => ?_
  · rw [PySem.numAt_eq]
    refine PySem.getD_mem ?_
    rw [List.length_map, Array.length_toList]
    exact Nat.lt_of_le_of_lt a1 (by omega)
  · obtain ⟨j, hj, rfl⟩ := PySem.mem_getD hy
    rw [List.length_map, Array.length_toList] at hj
    rw [← PySem.numAt_eq]
    exact a2 j (by omega)
end
end MaxT
namespace Bx
open PySem PySem.Spec PyProof.Rows L2
def rMaxT (K : PySem.W.Frag) : List V → Hp → VK → Prop := fun xs H Q => ∃ (a : Addr) (ns : List Int), xs = [.ref a] ∧ SqT K H a (ns.map V.int) ∧ ns ≠ [] ∧ ∀ m, m ∈ ns → (∀ y ∈ ns, y ≤ m) → Q (.int m) H
theorem call_maxT {X : Cx} {K : PySem.W.Frag} (h : X.K = K) (hc : X.calm = true) : CallR X (.builtin "max") (rMaxT K) := by
  subst h
  intro pins s σ H xs us Q I r hw
  obtain ⟨a, ns, rfl, hs, hne, q⟩ := hw
  obtain ⟨its, rv, ht, _⟩ := I.tuple hs
  rw [Vals.ref1 r]
  exact MaxT.rawT (I.ok.hd hc) ht rv.ints hne fun g tk m t' hk h1 h2 => ⟨.int m, H, I.kept hk, ⟨_, rfl⟩, q m h1 h2⟩
theorem call_maxK {X : Cx} {K : PySem.W.Frag} (h : X.K = K) (hc : X.calm = true) : CallR X (.builtin "max") (rMax K) := by
  subst h
  exact cr_max hc
def spCheckX (cL : Addr) : Sp := fun vs H Q E => ∃ (p : Addr) (h l : List Int) (n : Int), vs = [.ref p, .int n] ∧ Las H p h l ∧ l ≠ [] ∧ h.length ≤ 1000 ∧ l.length ≤ 1000 ∧
  ((∃ x, (x ∈ h ∨ x ∈ l) ∧ n ≤ x) → ∀ H', Same H H' → E (.ref cL) none H') ∧ ((∀ x, x ∈ h ∨ x ∈ l → x < n) → ∀ H', Same H H' → Q .non H')
end Bx
/-! ### lists of lists, instances made in a try: own rules -/
namespace Bx
open PySem PySem.Spec PyProof.Rows L2
section
variable {X : Cx}
theorem pi_or {tg iter : Expr} {w1 w2 : TI} (h1 : PI X tg iter w1) (h2 : PI X tg iter w2) : PI X tg iter (fun σ H R => w1 σ H R ∨ w2 σ H R) := ⟨fun pins s σ H R I h => by
  rcases h with h | h
  · exact h1.run pins s σ H R I h
  · exact h2.run pins s σ H R I h⟩
theorem passF {P : Program} {w : World} : Passes (L2.CX P w) X (fun _ _ _ => False) := fun _ _ _ _ _ _ _ h => by
  obtain ⟨_, _, _, _, _, _, _, _, _, _, _, _, z⟩ := h
  exact z.elim
/-- a new instance of an own class whose __init__ may raise -/
structure MakX (P : Program) (w : World) (K : PySem.W.Frag) (mg : Str → Option Value) (base : Heap) (k : Nat) (x : Str) (C : Addr) (sp : Sp) : Prop where
  ex : ∃ (f : Addr) (fd : FuncData) (ps : List Str), Mk K C f ∧ FnOk P w K mg base (L2.CX P w) k f fd ps sp ∧ mg x = some (.ref C) ∧ Binds K fd ps []
def tMakX (C : Addr) (sp : Sp) (E : L2.St → XK) (t : TA) : TE := fun σ H Q => t σ H fun vs H1 => ∀ x dx, H1 x = none → H1 dx = none → dx ≠ x → sp (.ref x :: vs) (upd (upd H1 dx (.own x)) x (.ins C dx [])) (fun v H2 => v = .non ∧ Q (.ref x) H2) (E σ)
theorem made_at {k : Nat} {f C : Addr} {fd : FuncData} {ps : List Str} {sp : Sp} {E : XK} {pins : List (Addr × Obj)} {σ : L2.St} {H : Hp} {u : Shared} {Q : VK} {us : List Value} {vs : List V} (M : Mk X.K C f) (F : FnOk X.prog X.w X.K X.mg X.base (L2.CX X.prog X.w) k f fd ps sp) (hr : Room (k + 1) X.A) (hb : Binds X.K fd ps [])
    (hx : PassesAt (L2.CX X.prog X.w) X σ E) (I : Inv X pins σ H u) (r : Vals vs us)
    (h : ∀ x dx, H x = none → H dx = none → dx ≠ x → sp (.ref x :: vs) (upd (upd H dx (.own x)) x (.ins C dx [])) (fun v H2 => v = .non ∧ Q (.ref x) H2) E) :
    wpAny (model X.prog X.w) X.A (call (.ref C) us) (EP X pins σ Q) X.xe u := by
  have q0 := h (u.heap.objs.size + 1) u.heap.objs.size (I.hok.fresh (Nat.le_succ _)) (I.hok.fresh (Nat.le_refl _)) (Nat.ne_of_lt (Nat.lt_succ_self _))
  have J := Inv.made (C := C) I
  have r2 : Vals (V.ref (u.heap.objs.size + 1) :: vs) (Value.ref (u.heap.objs.size + 1) :: us) := .cons rfl r
  have hl : (Value.ref (u.heap.objs.size + 1) :: us ++ []).length = ps.length := by
    have e := r2.length
    rw [F.len _ _ _ _ q0] at e
    rw [List.append_nil]
    exact e.symm
  refine wpAny_call (make_map (f := f) I.kIn M.makes M.init (beq_iff_eq.mp M.fn) (codeAny_mono (F.run _ X.stack _ _ ⟨Value.ref (u.heap.objs.size + 1) :: us, []⟩ (Value.ref (u.heap.objs.size + 1) :: us) _ _ E (hr.make C us [])
    (J.env0.make C us []) (by have q := hb _ (Value.ref (u.heap.objs.size + 1) :: us) J.kIn hl; rw [List.append_nil] at q; exact q) r2 q0) fun r u' hq => ?_))
  cases r with
  | error e => exact hx pins _ _ e u' J hq
  | ok fl =>
    cases fl with
    | ret v =>
      obtain ⟨y, G, J3, ry, ey, qy⟩ := J.after hq
      subst ey
      exact ⟨ry, ⟨V.ref (u.heap.objs.size + 1), G, J3, rfl, qy⟩⟩
    | next => exact False.elim hq
    | brk => exact False.elim hq
    | cont => exact False.elim hq
theorem pe_makeX {k j : Nat} {C : Addr} {x : Str} {sp : Sp} {W : WX} {p pos : Pos} {e : Expr} {es : List Expr} {t : TA} (c : MakX X.prog X.w X.K X.mg X.base k x C sp) (hr : Room j X.A) (hk : k + 1 ≤ j) (tk : Takes X W) (hg : Gl X x) (ha : PA X (e :: es) t)
    (hdb : (x == ("__debug__" : Str)) = false := by decide) (he : starEach (e :: es) X.env = (false, eval e X.env) :: starEach es X.env := by rfl) (hpl : (backTo pos (starEach es X.env)).any (·.1) = false := by rfl) :
    PE X (.Call (.Name x p) (e :: es) [] pos) (tMakX C sp (WE W) t) := by
  obtain ⟨f, fd, ps, M, F, hm, b⟩ := c.ex
  refine ⟨fun pins u σ H Q I hw => ?_⟩
  refine wpAny_Call_Name_kw (ld_glob I hg hm ?_ hdb)
  refine PySem.W.callWith_K (h₀ := X.base) I.ok.mod.kin M.kp (thn (ha.run pos pins u σ H _ I hw) fun us u1 ⟨vs, H1, I1, rv, qv⟩ => ⟨I1.kIn, ?_⟩) he hpl
  exact made_at M F (hr.mono hk) b (passAt tk σ) I1 rv qv
theorem pe_makeN {k j : Nat} {C : Addr} {x : Str} {sp : Sp} {p pos : Pos} {e : Expr} {es : List Expr} {t : TA} (c : MakX X.prog X.w X.K X.mg X.base k x C sp) (hr : Room j X.A) (hk : k + 1 ≤ j) (hg : Gl X x) (ha : PA X (e :: es) t)
    (hdb : (x == ("__debug__" : Str)) = false := by decide) (he : starEach (e :: es) X.env = (false, eval e X.env) :: starEach es X.env := by rfl) (hpl : (backTo pos (starEach es X.env)).any (·.1) = false := by rfl) :
    PE X (.Call (.Name x p) (e :: es) [] pos) (tMakX C sp (fun _ => fun _ _ _ => False) t) := by
  obtain ⟨f, fd, ps, M, F, hm, b⟩ := c.ex
  refine ⟨fun pins u σ H Q I hw => ?_⟩
  refine wpAny_Call_Name_kw (ld_glob I hg hm ?_ hdb)
  refine PySem.W.callWith_K (h₀ := X.base) I.ok.mod.kin M.kp (thn (ha.run pos pins u σ H _ I hw) fun us u1 ⟨vs, H1, I1, rv, qv⟩ => ⟨I1.kIn, ?_⟩) he hpl
  exact made_at M F (hr.mono hk) b (fun pins G v e v' J q => passF pins σ G v e v' J q) I1 rv qv
end
/-! rows of ints -/
def RowsA (mk : List V → HO) (H : Hp) : List Addr → List (List Int) → Prop
  | [], [] => True
  | a :: as, r :: rs => H a = some (mk (r.map V.int)) ∧ RowsA mk H as rs
  | _, _ => False
def RowsQ (H : Hp) : List Addr → List (List Int) → Prop
  | [], [] => True
  | a :: as, r :: rs => SeqI H a r ∧ RowsQ H as rs
  | _, _ => False
theorem RowsA.keep {mk : List V → HO} {H H' : Hp} : ∀ {as : List Addr} {rs : List (List Int)}, (∀ b o, b ∈ as → H b = some o → H' b = some o) → RowsA mk H as rs → RowsA mk H' as rs
  | [], [], _, _ => True.intro
  | a :: as, r :: rs, k, h => ⟨k a _ List.mem_cons_self h.1, RowsA.keep (fun b o hb => k b o (List.mem_cons_of_mem _ hb)) h.2⟩
  | [], _ :: _, _, h => h.elim
  | _ :: _, [], _, h => h.elim
theorem RowsA.same {mk : List V → HO} {H H' : Hp} {as : List Addr} {rs : List (List Int)} (k : Same H H') (h : RowsA mk H as rs) : RowsA mk H' as rs := h.keep fun b o _ e => k b o e
theorem RowsA.len {mk : List V → HO} {H : Hp} : ∀ {as : List Addr} {rs : List (List Int)}, RowsA mk H as rs → as.length = rs.length
  | [], [], _ => rfl
  | a :: as, r :: rs, h => congrArg (· + 1) h.2.len
  | [], _ :: _, h => h.elim
  | _ :: _, [], h => h.elim
theorem RowsA.snoc {mk : List V → HO} {H : Hp} {a : Addr} {r : List Int} (ha : H a = some (mk (r.map V.int))) : ∀ {as : List Addr} {rs : List (List Int)}, RowsA mk H as rs → RowsA mk H (as ++ [a]) (rs ++ [r])
  | [], [], _ => ⟨ha, True.intro⟩
  | b :: as, q :: rs, h => ⟨h.1, h.2.snoc ha⟩
  | [], _ :: _, h => h.elim
  | _ :: _, [], h => h.elim
theorem RowsA.get {mk : List V → HO} {H : Hp} : ∀ {as : List Addr} {rs : List (List Int)} {i : Nat} {a : Addr}, RowsA mk H as rs → as[i]? = some a → ∃ r, rs[i]? = some r ∧ H a = some (mk (r.map V.int))
  | [], _, _, _, _, e => by simp at e
  | b :: as, [], _, _, h, _ => h.elim
  | b :: as, q :: rs, 0, a, h, e => by
    have : b = a := Option.some.inj e
    subst this
    exact ⟨q, rfl, h.1⟩
  | b :: as, q :: rs, i + 1, a, h, e => RowsA.get (i := i) h.2 e
theorem RowsA.q1 {H : Hp} : ∀ {as : List Addr} {rs : List (List Int)}, RowsA .lst H as rs → RowsQ H as rs
  | [], [], _ => True.intro
  | a :: as, r :: rs, h => ⟨.inl h.1, h.2.q1⟩
  | [], _ :: _, h => h.elim
  | _ :: _, [], h => h.elim
theorem RowsA.q2 {H : Hp} : ∀ {as : List Addr} {rs : List (List Int)}, RowsA .tup H as rs → RowsQ H as rs
  | [], [], _ => True.intro
  | a :: as, r :: rs, h => ⟨.inr h.1, h.2.q2⟩
  | [], _ :: _, h => h.elim
  | _ :: _, [], h => h.elim
theorem RowsQ.same {H H' : Hp} (k : Same H H') : ∀ {as : List Addr} {rs : List (List Int)}, RowsQ H as rs → RowsQ H' as rs
  | [], [], _ => True.intro
  | a :: as, r :: rs, h => ⟨h.1.same k, h.2.same k⟩
  | [], _ :: _, h => h.elim
  | _ :: _, [], h => h.elim
theorem RowsQ.len {H : Hp} : ∀ {as : List Addr} {rs : List (List Int)}, RowsQ H as rs → as.length = rs.length
  | [], [], _ => rfl
  | a :: as, r :: rs, h => congrArg (· + 1) h.2.len
  | [], _ :: _, h => h.elim
  | _ :: _, [], h => h.elim
theorem RowsQ.get {H : Hp} : ∀ {as : List Addr} {rs : List (List Int)} {i : Nat} {a : Addr}, RowsQ H as rs → as[i]? = some a → ∃ r, rs[i]? = some r ∧ SeqI H a r
  | [], _, _, _, _, e => by simp at e
  | b :: as, [], _, _, h, _ => h.elim
  | b :: as, q :: rs, 0, a, h, e => by
    have : b = a := Option.some.inj e
    subst this
    exact ⟨q, rfl, h.1⟩
  | b :: as, q :: rs, i + 1, a, h, e => RowsQ.get (i := i) h.2 e
/-- a list or a tuple of any values -/
def SeqV (H : Hp) (a : Addr) (xs : List V) : Prop := H a = some (.lst xs) ∨ H a = some (.tup xs)
theorem SeqV.same {H H' : Hp} {a : Addr} {xs : List V} (k : Same H H') (h : SeqV H a xs) : SeqV H' a xs := by
  rcases h with h | h
  · exact .inl (k _ _ h)
  · exact .inr (k _ _ h)
theorem SeqV.sq {K : PySem.W.Frag} {H : Hp} {a : Addr} {xs : List V} (h : SeqV H a xs) : SqL K H a xs ∨ SqT K H a xs := by
  rcases h with h | h
  · exact .inl (.of h)
  · exact .inr (.of h)
def iSeq (K : PySem.W.Frag) (te : TE) : TI := fun σ H R => iList K te σ H R ∨ iTup K te σ H R
theorem pi_listK {X : Cx} {K : PySem.W.Frag} {tg e : Expr} {te : TE} (h : X.K = K) (he : PE X e te) : PI X tg e (iList K te) := by
  subst h
  exact pi_list he
theorem pi_tupK {X : Cx} {K : PySem.W.Frag} {tg e : Expr} {te : TE} (h : X.K = K) (he : PE X e te) : PI X tg e (iTup K te) := by
  subst h
  exact pi_tup he
theorem pi_seq {X : Cx} {K : PySem.W.Frag} {tg e : Expr} {te : TE} (h : X.K = K) (he : PE X e te) : PI X tg e (iSeq K te) := by
  subst h
  exact pi_or (pi_list he) (pi_tup he)
theorem for_seq {K : PySem.W.Frag} {i : Nat} {a : Addr} {xs : List V} {g : TG} {tb : TS} {D : Ends} {σ : L2.St} {H : Hp} (hv : σ[i]? = some (some (.ref a))) (hq : SeqV H a xs) (Pv : Nat → L2.St → Hp → Prop) (h0 : Pv 0 σ H) (hS : ∀ i σ' H', Pv i σ' H' → Same H H')
    (hs : ∀ i x σ H, xs[i]? = some x → Pv i σ H → g x σ H fun σ2 H2 => tb { D with nx := Pv (i + 1), ct := Pv (i + 1), bk := D.nx } σ2 H2) (hd : ∀ σ H, Pv xs.length σ H → D.nx σ H) : tFor (iSeq K (tVar i)) g tb D σ H := by
  rcases hq with h | h
  · exact .inl ⟨_, hv, a, rfl, ⟨_, .of h⟩, for_list Pv h0 (fun i σ' H' _ p => .of (hS i σ' H' p _ _ h)) hs hd⟩
  · exact .inr ⟨_, hv, a, rfl, ⟨_, .of h⟩, for_tup Pv h0 (fun i σ' H' _ p => .of (hS i σ' H' p _ _ h)) hs hd⟩
/-- a list of lists of ints -/
def LL (H : Hp) (r : Addr) (as : List Addr) (rows : List (List Int)) : Prop := H r = some (.lst (as.map V.ref)) ∧ RowsA .lst H as rows
def Vld (L s : Int) (ps : List Int) (rows : List (List Int)) : Prop := 1 ≤ L ∧ rows ≠ [] ∧ ps.length = rows.length ∧ (0 ≤ s ∧ s < (rows.length : Int)) ∧ (∀ r ∈ rows, (r.length : Int) = L ∧ ∀ x ∈ r, 0 ≤ x ∧ x < (rows.length : Int)) ∧ ∀ p ∈ ps, 0 ≤ p
/-- the fields of a parity automaton, as they are stored -/
def pf (L s : Int) (pt rt : Addr) : List (Str × V) := putF "rows" (.ref rt) (putF "priorities" (.ref pt) (putF "start" (.int s) (putF "letters" (.int L) [])))
theorem putF_len (f : Str) (v : V) : ∀ fs : List (Str × V), (putF f v fs).length ≤ fs.length + 1
  | [] => Nat.le_refl _
  | (g, x) :: r => by
    unfold putF
    by_cases c : g = f
    · rw [if_pos c]
      exact Nat.le_succ _
    · rw [if_neg c]
      exact Nat.succ_le_succ (putF_len f v r)
theorem pf_L (L s : Int) (pt rt : Addr) : (pf L s pt rt).lookup ("letters" : Str) = some (.int L) := by
  unfold pf
  rw [lookup_putF, if_neg (by decide +kernel), lookup_putF, if_neg (by decide +kernel), lookup_putF, if_neg (by decide +kernel), lookup_putF, if_pos rfl]
theorem pf_s (L s : Int) (pt rt : Addr) : (pf L s pt rt).lookup ("start" : Str) = some (.int s) := by
  unfold pf
  rw [lookup_putF, if_neg (by decide +kernel), lookup_putF, if_neg (by decide +kernel), lookup_putF, if_pos rfl]
theorem pf_p (L s : Int) (pt rt : Addr) : (pf L s pt rt).lookup ("priorities" : Str) = some (.ref pt) := by
  unfold pf
  rw [lookup_putF, if_neg (by decide +kernel), lookup_putF, if_pos rfl]
theorem pf_r (L s : Int) (pt rt : Addr) : (pf L s pt rt).lookup ("rows" : Str) = some (.ref rt) := by
  unfold pf
  rw [lookup_putF, if_pos rfl]
/-- a parity automaton at x -/
def ParAt (C : Addr) (H : Hp) (x : Addr) (L s : Int) (ps : List Int) (rows : List (List Int)) : Prop := ∃ (dx pt rt : Addr) (as : List Addr), H x = some (.ins C dx (pf L s pt rt)) ∧ TupI H pt ps ∧ H rt = some (.tup (as.map V.ref)) ∧ RowsA .tup H as rows
theorem ParAt.same {C : Addr} {H H' : Hp} {x : Addr} {L s : Int} {ps : List Int} {rows : List (List Int)} (k : Same H H') (h : ParAt C H x L s ps rows) : ParAt C H' x L s ps rows := by
  obtain ⟨dx, pt, rt, as, e1, e2, e3, e4⟩ := h
  exact ⟨dx, pt, rt, as, k _ _ e1, k _ _ e2, k _ _ e3, e4.same k⟩
/-- what the class has -/
structure ParC (K : PySem.W.Frag) (C : Addr) : Prop where
  cl : Cls K C
  nL : NoAttr K C "letters"
  nS : NoAttr K C "start"
  nP : NoAttr K C "priorities"
  nR : NoAttr K C "rows"
def spCheckS (cI : Addr) : Sp := fun vs H Q E => ∃ (z n : Int), vs = [.int z, .int n] ∧ (¬ (0 ≤ z ∧ z < n) → E (.ref cI) none H) ∧ ((0 ≤ z ∧ z < n) → Q .non H)
def spInitP (C cI : Addr) : Sp := fun vs H Q E => ∃ (x p r dx : Addr) (L s : Int) (ps : List Int) (as : List Addr) (rows : List (List Int)), vs = [.ref x, .int L, .int s, .ref p, .ref r] ∧ H x = some (.ins C dx []) ∧ H p = some (.lst (ps.map V.int)) ∧ SeqV H r (as.map V.ref) ∧ RowsQ H as rows ∧
  rows.length ≤ 1000 ∧ ps.length ≤ 1000 ∧ (∀ q ∈ rows, q.length ≤ 1000) ∧ (¬ Vld L s ps rows → E (.ref cI) none H) ∧ (Vld L s ps rows → ∀ H', Kp x H H' → ParAt C H' x L s ps rows → Q .non H')
end Bx
namespace Bx
open PySem PySem.Spec PyProof.Rows L2
theorem lc_seq {K : PySem.W.Frag} {i : Nat} {a : Addr} {xs : List V} {g : TG} {tt : TT} {te : TE} {vs : List Nat} {σ : L2.St} {H : Hp} {Q : VK} (hv : σ[i]? = some (some (.ref a))) (hq : SeqV H a xs) (Pv : Addr → Nat → Hp → Prop) (h0 : ∀ D, H D = none → Pv D 0 (upd H D (.lst [])))
    (hS : ∀ D j H', H D = none → Pv D j H' → Same H H')
    (hs : ∀ D, H D = none → ∀ i x H', xs[i]? = some x → Pv D i H' → g x (wipe σ vs) H' fun σ2 H2 => wipe σ2 vs = wipe σ vs ∧ tt σ2 H2 fun b H3 => if b = true then te σ2 H3 fun y H4 => ∃ acc, H4 D = some (.lst acc) ∧ acc.length < sizeLine ∧ Pv D (i + 1) (upd H4 D (.lst (acc ++ [y]))) else Pv D (i + 1) H3)
    (hd : ∀ D H', H D = none → Pv D xs.length H' → Q (.ref D) H') : tLc (iSeq K (tVar i)) g tt te vs σ H Q := by
  rcases hq with h | h
  · exact .inl ⟨_, hv, a, rfl, ⟨_, .of h⟩, fun D hD => lc_list (Pv D) (h0 D hD) (fun i H' _ p => .of (hS D i H' hD p _ _ h)) (hs D hD) (fun H' p => hd D H' hD p)⟩
  · exact .inr ⟨_, hv, a, rfl, ⟨_, .of h⟩, fun D hD => lc_tup (Pv D) (h0 D hD) (fun i H' _ p => .of (hS D i H' hD p _ _ h)) (hs D hD) (fun H' p => hd D H' hD p)⟩
theorem rowsUpd {H : Hp} {x : Addr} {o : HO} (hx : ∀ ys, H x ≠ some (.tup ys)) : ∀ {as : List Addr} {rs : List (List Int)}, RowsA .tup H as rs → RowsA .tup (upd H x o) as rs
  | [], [], _ => True.intro
  | a :: as, r :: rs, h => ⟨by
      have h1 := h.1
      rw [upd_ne (fun z => by rw [z] at h1; exact hx _ h1)]
      exact h1, rowsUpd hx h.2⟩
  | [], _ :: _, h => h.elim
  | _ :: _, [], h => h.elim
theorem refs_get {as : List Addr} {i : Nat} {v : V} (h : (as.map V.ref)[i]? = some v) : ∃ a, as[i]? = some a ∧ v = .ref a := by
  rw [List.getElem?_map] at h
  cases e : as[i]? with
  | none => rw [e] at h; cases h
  | some z => rw [e] at h; exact ⟨z, rfl, (Option.some.inj h).symm⟩
theorem ints_get {xs : List Int} {i : Nat} {v : V} (h : (xs.map V.int)[i]? = some v) : ∃ x, xs[i]? = some x ∧ v = .int x := by
  rw [List.getElem?_map] at h
  cases e : xs[i]? with
  | none => rw [e] at h; cases h
  | some z => rw [e] at h; exact ⟨z, rfl, (Option.some.inj h).symm⟩
theorem take_get {α : Type} {xs : List α} {i : Nat} {x : α} (h : xs[i]? = some x) : xs.take (i + 1) = xs.take i ++ [x] := by
  rw [List.take_add_one, h]
  rfl
theorem pl_next {f : Str} {v : V} {fs : List (Str × V)} {n : Nat} (h : fs.length ≤ n) : (putF f v fs).length ≤ n + 1 := Nat.le_trans (putF_len f v fs) (Nat.succ_le_succ h)
theorem pl_lt {fs : List (Str × V)} {n : Nat} (h : fs.length ≤ n) (k : n < 1000) : fs.length < 1000 := Nat.lt_of_le_of_lt h k
theorem pl_0 : ([] : List (Str × V)).length ≤ 0 := Nat.le_refl _
theorem fld_def {Kf : PySem.W.Frag} {ta tv : TE} {f : Str} {D : Ends} {σ : L2.St} {H : Hp} (h : tv σ H fun y H1 => ta σ H1 fun x H2 => ∃ a C dx fs, x = .ref a ∧ H2 a = some (.ins C dx fs) ∧ Cls Kf C ∧ NoAttr Kf C f ∧ fs.length < 1000 ∧ D.nx σ (upd H2 a (.ins C dx (putF f y fs)))) : sFld Kf ta tv f D σ H := h
theorem cb1_def {r : List V → Hp → VK → Prop} {te : TE} {σ : L2.St} {H : Hp} {Q : VK} (h : te σ H fun v H1 => r [v] H1 Q) : tCB r (tCons te tNil) σ H Q := h
theorem rows_some {mk : List V → HO} {H : Hp} : ∀ {as : List Addr} {rs : List (List Int)} {a : Addr}, RowsA mk H as rs → a ∈ as → ∃ o, H a = some o
  | [], _, _, _, h => by simp at h
  | b :: as, [], _, h, _ => h.elim
  | b :: as, r :: rs, a, h, m => by
    rcases List.mem_cons.mp m with z | z
    · rw [z]
      exact ⟨_, h.1⟩
    · exact rows_some h.2 z
theorem LL.same {H H' : Hp} {r : Addr} {as : List Addr} {rows : List (List Int)} (k : Same H H') (h : LL H r as rows) : LL H' r as rows := ⟨k _ _ h.1, h.2.same k⟩
def exS (d : Scope) : Expr → Scope
  | .ListComp _ _ s _ => s
  | .Call _ (.ListComp _ _ s _ :: _) _ _ => s
  | _ => d
def stS (d : Scope) (i : Nat) (b : List Stmt) : Scope := match b[i]? with
  | some (.Return (some e) _) => exS d e
  | some (.Assign _ e _) => exS d e
  | _ => d
/-- ascending numbers below n -/
def Asc (n : Int) (xs : List Int) : Prop := xs.Pairwise (· < ·) ∧ ∀ x ∈ xs, 0 ≤ x ∧ x < n
/-- rows of rows of ints -/
def CubB (mk : List V → HO) (H : Hp) : List Addr → List (List Addr) → List (List (List Int)) → Prop
  | [], [], [] => True
  | a :: as, bs :: bss, r :: rs => (H a = some (mk (bs.map V.ref)) ∧ RowsA mk H bs r) ∧ CubB mk H as bss rs
  | _, _, _ => False
theorem cub_keep {mk : List V → HO} {H H' : Hp} : ∀ {as : List Addr} {bss : List (List Addr)} {c : List (List (List Int))}, (∀ b o, (b ∈ as ∨ ∃ bs ∈ bss, b ∈ bs) → H b = some o → H' b = some o) → CubB mk H as bss c → CubB mk H' as bss c
  | [], [], [], _, _ => True.intro
  | a :: as, bs :: bss, r :: rs, k, h => ⟨⟨k a _ (.inl List.mem_cons_self) h.1.1, h.1.2.keep fun b o hb => k b o (.inr ⟨bs, List.mem_cons_self, hb⟩)⟩, cub_keep (fun b o hb => k b o (by
      rcases hb with z | ⟨q, z, y⟩
      · exact .inl (List.mem_cons_of_mem _ z)
      · exact .inr ⟨q, List.mem_cons_of_mem _ z, y⟩)) h.2⟩
  | [], [], _ :: _, _, h => h.elim
  | [], _ :: _, _, _, h => h.elim
  | _ :: _, [], _, _, h => h.elim
  | _ :: _, _ :: _, [], _, h => h.elim
theorem cub_same {mk : List V → HO} {H H' : Hp} {as : List Addr} {bss : List (List Addr)} {c : List (List (List Int))} (s : Same H H') (h : CubB mk H as bss c) : CubB mk H' as bss c := cub_keep (fun b o _ e => s b o e) h
theorem cub_len {mk : List V → HO} {H : Hp} : ∀ {as : List Addr} {bss : List (List Addr)} {c : List (List (List Int))}, CubB mk H as bss c → as.length = c.length ∧ bss.length = c.length
  | [], [], [], _ => ⟨rfl, rfl⟩
  | a :: as, bs :: bss, r :: rs, h => ⟨congrArg (· + 1) (cub_len h.2).1, congrArg (· + 1) (cub_len h.2).2⟩
  | [], [], _ :: _, h => h.elim
  | [], _ :: _, _, h => h.elim
  | _ :: _, [], _, h => h.elim
  | _ :: _, _ :: _, [], h => h.elim
theorem cub_snoc {mk : List V → HO} {H : Hp} {a : Addr} {bs : List Addr} {r : List (List Int)} (h1 : H a = some (mk (bs.map V.ref))) (h2 : RowsA mk H bs r) : ∀ {as : List Addr} {bss : List (List Addr)} {c : List (List (List Int))}, CubB mk H as bss c → CubB mk H (as ++ [a]) (bss ++ [bs]) (c ++ [r])
  | [], [], [], _ => ⟨⟨h1, h2⟩, True.intro⟩
  | b :: as, cs :: bss, q :: rs, h => ⟨h.1, cub_snoc h1 h2 h.2⟩
  | [], [], _ :: _, h => h.elim
  | [], _ :: _, _, h => h.elim
  | _ :: _, [], _, h => h.elim
  | _ :: _, _ :: _, [], h => h.elim
theorem cub_get {mk : List V → HO} {H : Hp} : ∀ {as : List Addr} {bss : List (List Addr)} {c : List (List (List Int))} {i : Nat} {a : Addr}, CubB mk H as bss c → as[i]? = some a → ∃ bs r, bss[i]? = some bs ∧ c[i]? = some r ∧ H a = some (mk (bs.map V.ref)) ∧ RowsA mk H bs r
  | [], _, _, _, _, _, e => by simp at e
  | a :: as, bs :: bss, r :: rs, 0, b, h, e => by
    have : a = b := Option.some.inj e
    subst this
    exact ⟨bs, r, rfl, rfl, h.1.1, h.1.2⟩
  | a :: as, bs :: bss, r :: rs, i + 1, b, h, e => cub_get (i := i) h.2 e
  | _ :: _, [], _, _, _, h, _ => h.elim
  | _ :: _, _ :: _, [], _, _, h, _ => h.elim
theorem cub_some {mk : List V → HO} {H : Hp} : ∀ {as : List Addr} {bss : List (List Addr)} {c : List (List (List Int))} {b : Addr}, CubB mk H as bss c → (b ∈ as ∨ ∃ bs ∈ bss, b ∈ bs) → ∃ o, H b = some o
  | [], [], _, _, _, h => by
    rcases h with h | ⟨_, h, _⟩
    · simp at h
    · simp at h
  | a :: as, bs :: bss, r :: rs, b, h, m => by
    rcases m with m | ⟨q, m, y⟩
    · rcases List.mem_cons.mp m with z | z
      · rw [z]; exact ⟨_, h.1.1⟩
      · exact cub_some h.2 (.inl z)
    · rcases List.mem_cons.mp m with z | z
      · rw [z] at y; exact rows_some h.1.2 y
      · exact cub_some h.2 (.inr ⟨q, z, y⟩)
  | [], _ :: _, _, _, h, _ => h.elim
  | _ :: _, [], _, _, h, _ => h.elim
  | _ :: _, _ :: _, [], _, h, _ => h.elim
/-- an object that is not one of the rows may change -/
theorem cub_tup {H : Hp} {x : Addr} {o : HO} (hx : ∀ ys, H x ≠ some (.tup ys)) : ∀ {as : List Addr} {bss : List (List Addr)} {c : List (List (List Int))}, CubB .tup H as bss c → CubB .tup (upd H x o) as bss c
  | [], [], [], _ => True.intro
  | a :: as, bs :: bss, r :: rs, h => ⟨⟨by
      have h1 := h.1.1
      rw [upd_ne (fun z => by rw [z] at h1; exact hx _ h1)]
      exact h1, rowsUpd hx h.1.2⟩, cub_tup hx h.2⟩
  | [], [], _ :: _, h => h.elim
  | [], _ :: _, _, h => h.elim
  | _ :: _, [], _, h => h.elim
  | _ :: _, _ :: _, [], h => h.elim
theorem rows_kp {mk : List V → HO} {H H' : Hp} {x : Addr} (hx : ∀ ys, H x ≠ some (mk ys)) (k : Kp x H H') : ∀ {as : List Addr} {rs : List (List Int)}, RowsA mk H as rs → RowsA mk H' as rs
  | [], [], _ => True.intro
  | a :: as, r :: rs, h => ⟨k _ _ (fun z => by have h1 := h.1; rw [z] at h1; exact hx _ h1) h.1, rows_kp hx k h.2⟩
  | [], _ :: _, h => h.elim
  | _ :: _, [], h => h.elim
theorem cub_kp {mk : List V → HO} {H H' : Hp} {x : Addr} (hx : ∀ ys, H x ≠ some (mk ys)) (k : Kp x H H') : ∀ {as : List Addr} {bss : List (List Addr)} {c : List (List (List Int))}, CubB mk H as bss c → CubB mk H' as bss c
  | [], [], [], _ => True.intro
  | a :: as, bs :: bss, r :: rs, h => ⟨⟨k _ _ (fun z => by have h1 := h.1.1; rw [z] at h1; exact hx _ h1) h.1.1, rows_kp hx k h.1.2⟩, cub_kp hx k h.2⟩
  | [], [], _ :: _, h => h.elim
  | [], _ :: _, _, h => h.elim
  | _ :: _, [], _, h => h.elim
  | _ :: _, _ :: _, [], h => h.elim
def bf (L : Int) (it at_ rt : Addr) : List (Str × V) := putF "rows" (.ref rt) (putF "accepting" (.ref at_) (putF "initial" (.ref it) (putF "letters" (.int L) [])))
theorem bf_L (L : Int) (a b c : Addr) : (bf L a b c).lookup ("letters" : Str) = some (.int L) := by
  unfold bf
  rw [lookup_putF, if_neg (by decide +kernel), lookup_putF, if_neg (by decide +kernel), lookup_putF, if_neg (by decide +kernel), lookup_putF, if_pos rfl]
theorem bf_i (L : Int) (a b c : Addr) : (bf L a b c).lookup ("initial" : Str) = some (.ref a) := by
  unfold bf
  rw [lookup_putF, if_neg (by decide +kernel), lookup_putF, if_neg (by decide +kernel), lookup_putF, if_pos rfl]
theorem bf_a (L : Int) (a b c : Addr) : (bf L a b c).lookup ("accepting" : Str) = some (.ref b) := by
  unfold bf
  rw [lookup_putF, if_neg (by decide +kernel), lookup_putF, if_pos rfl]
theorem bf_r (L : Int) (a b c : Addr) : (bf L a b c).lookup ("rows" : Str) = some (.ref c) := by
  unfold bf
  rw [lookup_putF, if_pos rfl]
def AutAt (C : Addr) (H : Hp) (x : Addr) (L : Int) (ini acc : List Int) (c : List (List (List Int))) : Prop := ∃ (dx it at_ rt : Addr) (as : List Addr) (bss : List (List Addr)), H x = some (.ins C dx (bf L it at_ rt)) ∧ TupI H it ini ∧ TupI H at_ acc ∧ H rt = some (.tup (as.map V.ref)) ∧ CubB .tup H as bss c
theorem aut_same {C : Addr} {H H' : Hp} {x : Addr} {L : Int} {ini acc : List Int} {c : List (List (List Int))} (k : Same H H') (h : AutAt C H x L ini acc c) : AutAt C H' x L ini acc c := by
  obtain ⟨dx, it, at_, rt, as, bss, e1, e2, e3, e4, e5⟩ := h
  exact ⟨dx, it, at_, rt, as, bss, k _ _ e1, k _ _ e2, k _ _ e3, k _ _ e4, cub_same k e5⟩
structure AutC (K : PySem.W.Frag) (C : Addr) : Prop where
  cl : Cls K C
  nL : NoAttr K C "letters"
  nI : NoAttr K C "initial"
  nA : NoAttr K C "accepting"
  nR : NoAttr K C "rows"
  c1 : PySem.W.findIn K (.ref C) "__class__" = some (some (.builtin "object.__class__"))
  c2 : PySem.W.specialIn K (.builtin "object.__class__") "__get__" = some (some (.builtin "getset_descriptor.__get__"))
  c3 : PySem.W.takesIn K (.builtin "object.__class__") = some true
  c4 : PySem.W.mroIn K C (.type "object") = some true
  c5 : PySem.W.kitOne K (.ref C) (.ref C) = some true
def VldB (L : Int) (ini acc : List Int) (c : List (List (List Int))) : Prop := 1 ≤ L ∧ c ≠ [] ∧ Asc c.length ini ∧ Asc c.length acc ∧ ∀ r ∈ c, (r.length : Int) = L ∧ ∀ e ∈ r, Asc c.length e
/-- a list of lists of lists -/
def LC (H : Hp) (r : Addr) (as : List Addr) (bss : List (List Addr)) (c : List (List (List Int))) : Prop := H r = some (.lst (as.map V.ref)) ∧ CubB .lst H as bss c
def spChecks (cI : Addr) : Sp := fun vs H Q E => ∃ (a : Addr) (xs : List Int) (n : Int), vs = [.ref a, .int n] ∧ H a = some (.lst (xs.map V.int)) ∧ (¬ Asc n xs → E (.ref cI) none H) ∧ (Asc n xs → Q .non H)
def spInitB (C cI : Addr) : Sp := fun vs H Q E => ∃ (x i a r dx : Addr) (L : Int) (ini acc : List Int) (as : List Addr) (bss : List (List Addr)) (c : List (List (List Int))), vs = [.ref x, .int L, .ref i, .ref a, .ref r] ∧ H x = some (.ins C dx []) ∧ H i = some (.lst (ini.map V.int)) ∧ H a = some (.lst (acc.map V.int)) ∧ LC H r as bss c ∧
  c.length ≤ 1000 ∧ (∀ r ∈ c, r.length ≤ 1000) ∧ (¬ VldB L ini acc c → E (.ref cI) none H) ∧ (VldB L ini acc c → ∀ H', Kp x H H' → AutAt C H' x L ini acc c → Q .non H')
end Bx

/-! ### own rules: a list extended by a tuple; a tuple's slice with a step -/
namespace Tx
open PySem PySem.Spec PyProof.Rows L2
section
variable {prog : Program} {w : World} {A : Around} {E : Value → Shared → Prop} {s : Shared}
set_option maxRecDepth 8000 in
theorem ext_tup (l b : Addr) (xs ys : Array Value) (n m : Nat) (dd : Option Addr) (sl : Array (Option Value)) (h0 : ¬(!xs.isEmpty && Builtin.List.listTooLong (xs.size + ys.size)) = true) (h1 : xs.size ≤ sizeLine) (h2 : xs.size + ys.size ≤ sizeLine + 1) :
    Meets (Builtin.«list.extend» ⟨[.ref l, .ref b], []⟩) (fun _ R s => s.heap.get? l = some { cls := .type "list", data := .seq xs n } ∧ s.heap.get? b = some { cls := .type "tuple", dict := dd, data := .seq ys m, slots := sl } ∧
      R (.ok (.ret Value.none)) { s with heap := s.heap.update l (Obj.mapSeq fun x => x ++ ys), toks := s.toks }) := .of_wp fun prog w A R s h => by
  obtain ⟨hp, g, d, tk, os⟩ := s
  obtain ⟨hl, hb, h⟩ := h
  have q1 := AutoSeq1.idx_int
  have q2 := AutoSeq1.sub_tuple_tuple
  have q3 := AutoSeq1.sub_list_list
  have q4 := AutoSeq1.sub_tuple_list
  have q5 := AutoSeq1.sub_list_tuple
  have hz : (xs ++ ys).size ≤ sizeLine + 1 := by
    rw [Array.size_append]
    exact h2
  wp_walk using (wpAny_updateSeq hl rfl (hz := h1) (_hz' := hz)), AutoSeq1.wpAny_loadPart' hl, AutoSeq1.wpAny_loadPart' hb
  exact ⟨_, rfl, h⟩
end
section
variable {X : Cx} {K : PySem.W.Frag}
def rExtT (K : PySem.W.Frag) : V → List V → Hp → VK → Prop := fun x vs H Q => ∃ l b xs zs, x = .ref l ∧ vs = [.ref b] ∧ H l = some (.lst xs) ∧ SqT K H b zs ∧ xs.length + zs.length ≤ sizeLine ∧ Q .non (upd H l (.lst (xs ++ zs)))
theorem mt_extT (hK : X.K = K) : MtM X "list.extend" (rExtT K) := by
  subst hK
  intro pins s σ H x vs v us Q I rx rv ⟨l, b, xs, zs, ex, ev, hH, hB, hz, q⟩
  subst ex
  subst ev
  cases rx
  obtain ⟨u, rfl, ru⟩ := rv.one
  cases ru
  obtain ⟨z, its, n, r, hl, e⟩ := I.lstM hH
  obtain ⟨its2, r2, ⟨⟨oc, od, ob, os⟩, e2, ec, m, eb⟩, z2⟩ := I.tuple hB
  have hl2 := r2.length
  dsimp only at ec eb
  subst ec
  subst eb
  have hs : its.toArray.size + its2.toArray.size ≤ sizeLine := by
    rw [List.size_toArray, List.size_toArray]
    omega
  refine call_meets F.slot_list_extend ⟨_, e, rfl⟩ F.entry_list_extend (F.args_list_extend_2 _ _) (ext_tup l b its.toArray its2.toArray n m od os (fun c => ?_) (by omega) (by omega)) ⟨e, e2, ?_⟩
  · rw [notLongL hs, Bool.and_false] at c
    cases c
  · refine ⟨.non, _, I.lset (its' := its ++ its2) hH e (by simp) (r.append r2) ?_, rfl, q⟩
    rw [List.length_append]
    omega
/-- the items that a slice with a step picks -/
def pk3 {α : Type} (xs : List α) (lo hi : Option Int) (c : Int) : List α :=
  (List.range (Builtin.Slice.slicePlaces (Builtin.Slice.sliceAdjust lo hi c xs.length).1 (Builtin.Slice.sliceAdjust lo hi c xs.length).2 c)).filterMap fun (k : Nat) => xs[((Builtin.Slice.sliceAdjust lo hi c xs.length).1 + (k : Int) * c).toNat]?
theorem pk3_vals {xs : List V} {us : List Value} (r : Vals xs us) (lo hi : Option Int) (c : Int) : Vals (pk3 xs lo hi c) (pk3 us lo hi c) := by
  unfold pk3
  rw [r.length]
  generalize List.range (Builtin.Slice.slicePlaces (Builtin.Slice.sliceAdjust lo hi c us.length).1 (Builtin.Slice.sliceAdjust lo hi c us.length).2 c) = ks
  generalize (Builtin.Slice.sliceAdjust lo hi c us.length).1 = b
  induction ks with
  | nil => exact .nil
  | cons k ks ih =>
    rw [List.filterMap_cons, List.filterMap_cons]
    cases e : xs[(b + (k : Int) * c).toNat]? with
    | none =>
      have : us[(b + (k : Int) * c).toNat]? = none := by
        rw [List.getElem?_eq_none_iff] at e ⊢
        rw [← r.length]
        exact e
      rw [this]
      exact ih
    | some x =>
      obtain ⟨u, e2, ru⟩ := Vals.get r e
      rw [e2]
      exact .cons ru ih
theorem pk3_len {α : Type} (xs : List α) (lo hi : Option Int) (c : Int) : (pk3 xs lo hi c).length ≤ Builtin.Slice.slicePlaces (Builtin.Slice.sliceAdjust lo hi c xs.length).1 (Builtin.Slice.sliceAdjust lo hi c xs.length).2 c := by
  unfold pk3
  refine Nat.le_trans (List.length_filterMap_le _ _) ?_
  rw [List.length_range]
  exact Nat.le_refl _
end
section
variable {prog : Program} {w : World} {A : Around} {E : Value → Shared → Prop} {s : Shared}
theorem applied3 {sl : Addr} {vl vu vs : Value} {lo hi : Option Int} {c : Int} {n : Nat} {Q : Int × Int × Nat → Shared → Prop} (hs : s.heap.IsSliceOf sl vl vu vs) (pl : IsPart vl lo) (pu : IsPart vu hi) (ps : IsPart vs (some c)) (hc : c ≠ 0)
    (h : Q ((Builtin.Slice.sliceAdjust lo hi c n).1, c, Builtin.Slice.slicePlaces (Builtin.Slice.sliceAdjust lo hi c n).1 (Builtin.Slice.sliceAdjust lo hi c n).2 c) s) :
    wpAny (model prog w) A (Builtin.Slice.sliceApplied (.ref sl) (pure (n : Int))) Q E s := by
  obtain ⟨ob, g1, _, g3⟩ := id hs
  unfold Builtin.Slice.sliceApplied Builtin.Slice.sliceFields
  refine wpAny_bind (wpAny_bind (wpAny_field g1 g3 (x := vl) rfl (wpAny_bind (wpAny_field g1 g3 (x := vu) rfl (wpAny_bind (wpAny_field g1 g3 (x := vs) rfl (wpAny_pure ?_)))))))
  refine wpAny_bind (HT.slicePart_ ps ?_)
  show wpAny _ _ (if (c == 0) = true then _ else _) _ _ s
  rw [if_neg (by simpa using hc)]
  refine wpAny_bind (HT.slicePart_ pl (wpAny_bind (HT.slicePart_ pu (wpAny_bind (wpAny_pure ?_)))))
  show wpAny _ _ (match Builtin.Slice.sliceAdjust lo hi c (n : Int) with | (lo, hi) => pure (lo, c, Builtin.Slice.slicePlaces lo hi c)) _ _ s
  exact wpAny_pure h
theorem item3 {t sl : Addr} {items : List Value} {vl vu vs : Value} {lo hi : Option Int} {c : Int} {Q : Value → Shared → Prop} (ht : IsTup s.heap t items.toArray) (hs : s.heap.IsSliceOf sl vl vu vs) (pl : IsPart vl lo) (pu : IsPart vu hi) (ps : IsPart vs (some c)) (hc : c ≠ 0)
    (h1 : c ≠ 1) (h : Q (.ref s.heap.objs.size) { s with heap := s.heap.push { cls := .type "tuple", data := .seq (pk3 items lo hi c).toArray } }) (hz : (pk3 items lo hi c).length ≤ sizeLine) :
    wpAny (model prog w) A (getItem (.ref t) (.ref sl)) Q E s := by
  have fits : sizeOk (.seq (pk3 items lo hi c).toArray) := by
    show (pk3 items lo hi c).toArray.size ≤ sizeLine
    rw [List.size_toArray]
    exact hz
  have isl : s.TypeIs (.ref sl) "slice" := by
    obtain ⟨ob, g1, g2, _⟩ := id hs
    exact ⟨ob, g1, g2⟩
  unfold getItem
  try with_reducible refine wpAny_holding ?_
  first | refine wpAny_bind (wpAny_pure ?_) | skip
  refine wpAny_bind (wpAny_sequenceKey ht.typeIs (by decide) (wpAny_bind (wpAny_callSpecial?_slot (name := Str.ofString "__getitem__") ht.typeIs slot_tuple_getitem (wpAny_call_entry slot_tuple_getitem ht.typeIs entry_tuple_getitem ?_ (args_tuple_getitem _ _)))))
  show wpAny _ _ (Builtin.Tuple.tupleItemsOf (.ref t) >>= _) _ _ s
  refine wpAny_bind (tupleItemsOf_ ht (wpAny_bind (wpAny_typeOf isl ?_)))
  rw [if_pos (by decide)]
  refine wpAny_bind (applied3 hs pl pu ps hc ?_)
  have no : ¬ (((Builtin.Slice.sliceAdjust lo hi c items.toArray.size).1 == 0 && c == 1 && (Builtin.Slice.slicePlaces (Builtin.Slice.sliceAdjust lo hi c items.toArray.size).1 (Builtin.Slice.sliceAdjust lo hi c items.toArray.size).2 c) == items.toArray.size) = true) := fun q => by
    rw [Bool.and_eq_true, Bool.and_eq_true] at q
    exact h1 (eq_of_beq q.1.2)
  have e : ((List.range (Builtin.Slice.slicePlaces (Builtin.Slice.sliceAdjust lo hi c items.toArray.size).1 (Builtin.Slice.sliceAdjust lo hi c items.toArray.size).2 c)).filterMap fun (k : Nat) => items.toArray[((Builtin.Slice.sliceAdjust lo hi c items.toArray.size).1 + (k : Int) * c).toNat]?) = pk3 items lo hi c := by
    unfold pk3
    rw [List.size_toArray]
    simp only [List.getElem?_toArray]
  show wpAny _ _ (if ((Builtin.Slice.sliceAdjust lo hi c items.toArray.size).1 == 0 && c == 1 && (Builtin.Slice.slicePlaces (Builtin.Slice.sliceAdjust lo hi c items.toArray.size).1 (Builtin.Slice.sliceAdjust lo hi c items.toArray.size).2 c) == items.toArray.size) = true then _ else _) _ _ s
  rw [if_neg no, e]
  first
    | exact wpAny_bind (m := Builtin.Tuple.tupleExact _) (wpAny_newObj_type (wpAny_pure ⟨_, rfl, wpAny_pure h⟩) fits)
    | exact wpAny_bind (m := Builtin.Tuple.tupleExact _) (wpAny_newObj_type (wpAny_bind (wpAny_pure (wpAny_pure ⟨_, rfl, wpAny_pure h⟩))) fits)
    | exact wpAny_bind (wpAny_bind (m := Builtin.Tuple.tupleExact _) (wpAny_newObj_type (wpAny_pure (wpAny_pure ⟨_, rfl, wpAny_pure h⟩)) fits))
    | exact wpAny_bind (wpAny_bind (m := Builtin.Tuple.tupleExact _) (wpAny_newObj_type (wpAny_pure ⟨_, rfl, wpAny_pure h⟩) fits))
end
section
variable {X : Cx} {K : PySem.W.Frag} {e s3 : Expr} {lo hi : Option Expr} {te : TE} {tl th t3 : TO} {p3 pos : Pos}
def tSl3 (K : PySem.W.Frag) (te : TE) (tl th t3 : TO) : TE := fun σ H Q => te σ H fun x H1 => tl σ H1 fun l H2 => th σ H2 fun u H3 => t3 σ H3 fun c H4 => ∃ a xs k, x = .ref a ∧ c = some k ∧ SqT K H4 a xs ∧ k ≠ 0 ∧ k ≠ 1 ∧ (pk3 xs l u k).length ≤ sizeLine ∧
  ∀ p, H4 p = none → Q (.ref p) (upd H4 p (.tup (pk3 xs l u k)))
theorem pe_sl3 (hK : X.K = K) (he : PE X e te) (hl : PO X lo tl) (hu : PO X hi th) (h3 : PO X (some s3) t3) (ho : ∀ a b : Addr, ∃ ops, subscripted (Expr.Slice lo hi (some s3) p3) false (.ref a) (.ref b) = operate ops (getItem (.ref a) (.ref b)) := by exact fun _ _ => ⟨_, rfl⟩) : PE X (.Subscript e (.Slice lo hi (some s3) p3) pos) (tSl3 K te tl th t3) := by
  subst hK
  refine ⟨fun pins s σ H Q I h => Subscript_ (thn (he.run pins s σ H _ I h) fun v s1 ⟨x, H1, I1, r1, q1⟩ => wpAny_Slice (thn (hl.run pins s1 σ H1 _ I1 q1) fun vl s2 ⟨l, H2, I2, pl, q2⟩ => thn (hu.run pins s2 σ H2 _ I2 q2) fun vu s4 ⟨u, H3, I3, pu, q3⟩ =>
    thn (h3.run pins s4 σ H3 _ I3 q3) fun vc s5 ⟨c, H4, I4, pc, q4⟩ => ?_))⟩
  obtain ⟨a, xs, k, ex, ec, hx, k0, k1, hz, q⟩ := q4
  subst ex
  subst ec
  cases r1
  have I5 : Inv X pins σ H4 { s5 with heap := s5.heap.push { cls := .type "slice", data := .fields #[vl, vu, vc] } } := I4.kept (t' := s5.toks) fun b ob q => Heap.get?_push_of_some _ q
  obtain ⟨its, r, ht, _⟩ := I5.tuple hx
  have rv := pk3_vals r l u k
  show wpAny (model X.prog X.w) X.A (subscriptTail e (.Slice lo hi (some s3) p3) (.ref a) (.ref s5.heap.objs.size)) (EP X pins σ Q) X.xe { s5 with heap := s5.heap.push { cls := .type "slice", data := .fields #[vl, vu, vc] } }
  obtain ⟨ops, hops⟩ := ho a s5.heap.objs.size
  refine tail_any (ops := ops) ht.typeIs (slot_tuple_getitem.lookup) ?_ hops
  refine item3 ht (Heap.IsSliceOf.new _ vl vu vc) pl pu pc k0 k1 ?_ (by rw [← rv.length]; exact hz)
  refine ⟨.ref _, _, I5.laid (t' := s5.toks) (o := .tup (pk3 xs l u k)) (fun b ob q => Heap.get?_push_of_some _ q) (Nat.le_refl _) ?_, rfl, q _ (I5.hok.fresh (Nat.le_refl _))⟩
  exact ⟨hz, _, rv, IsTup.new _ _⟩
end
end Tx

/-! ### own rules: set(xs), xs a list of ints; sorted of it -/
namespace Tz
open PySem PySem.Spec PyProof.Rows L2
section
variable {P : Program} {w : World} {A : Around} {E : Value → Shared → Prop} {s : Shared}
/-- the new set, empty -/
abbrev nul (w : World) : Obj := { cls := .type "set", dict := none, data := .set #[] 0 (.fresh 0 0 (!w.params.followText "set-order")) }
/-- what the filling leaves behind -/
def Filled (w : World) (s : Shared) (ns : List Int) (s2 : Shared) : Prop := ∃ h' tk c, s2 = { s with heap := h', toks := tk } ∧ SetR w h' s.heap.objs.size (fun j => decide (j ∈ ns)) c ∧ c ≤ ns.length ∧ ∀ b o, s.heap.get? b = some o → h'.get? b = some o
theorem set_of_list {l : Addr} {items : Array Value} (ns : List Int) {Q : Value → Shared → Prop} (hh : A.handled = none) (hl : s.heap.IsList l items) (hit : IntsAre items.toList ns) (hb : ns.length + 1 < scanBound)
    (h : ∀ s2, Filled w s ns s2 → Q (.ref s.heap.objs.size) s2) : wpAny (model P w) A (call (.type "set") [.ref l]) Q E s := by
  have hisz : items.size = ns.length := by
    have q := IntsAre.length hit
    rwa [Array.length_toList] at q
  have hS : (s.heap.push (nul w)).get? s.heap.objs.size = some (nul w) := Heap.get?_push_size _ rfl
  have hlt : l < s.heap.objs.size := by
    obtain ⟨o, ho, _⟩ := hl
    exact Heap.lt_size ho
  obtain ⟨c, tl, hmro⟩ := F.called_set.mro
  have m1 := F.called_set.made
  have m2 := F.called_set.sub
  refine wpAny_call (codeAny_of_tree ?_)
  show wpAny _ _ (callAny (.type "set") _) _ _ _
  refine wpAny_pure ⟨Code.quiet_builtin _ (by decide +kernel), codeAny_builtin F.entry_type_call ?_⟩
  rw [Around.under_plain (weight_type_call_type "set" [.ref l] []) rfl]
  have m3 := F.called_set.notType
  have m4 := F.called_set.canCreate
  have m5 := F.typeCall_set_1 (.ref l)
  repeat (any_goals (first | assumption | wp_step))
  refine codeAny_mono (code_set_led1 (.ref l) (E := E) (Q₁ := fun obj s1 => obj = .ref s.heap.objs.size ∧ s1 = { s with heap := s.heap.push (nul w) }) ⟨rfl, rfl⟩) fun r s1 hr => ?_
  cases r with
  | error e => exact hr
  | ok fl =>
    cases fl with
    | next => exact hr.elim
    | brk => exact hr.elim
    | cont => exact hr.elim
    | ret obj =>
      obtain ⟨rfl, rfl⟩ := hr
      have hT : Shared.TypeIs { s with heap := s.heap.push (nul w) } (.ref s.heap.objs.size) "set" := ⟨_, hS, rfl⟩
      have m6 := F.called_set.init.lookup
      have m7 := F.called_set.init.bind (.ref s.heap.objs.size)
      repeat (any_goals (first | assumption | wp_step))
      refine codeAny_mono (codeAny_call_builtin (R := wants (fun r s2 => r = .none ∧ Filled w s ns s2) E) F.called_set.init.plain F.entry_set_init (check_set_init_1 hT ?_)) fun r2 s2 hr2 => ?_
      · obtain ⟨ol, hol, hcl, nl, hdl⟩ := hl
        obtain ⟨ocls, odict, odata, oslots⟩ := ol
        simp only at hcl hdl
        subst hcl
        subst hdl
        have hol' := Heap.get?_push_of_some (nul w) hol
        have q1 := F.sub_list_set
        have q2 := F.sub_list_frozenset
        have q3 : (Value.type "list" == Value.type "dict") = false := by decide
        have hl1 : (s.heap.push (nul w)).IsList l items := ⟨_, hol', rfl, nl, rfl⟩
        unfold Builtin.«set.__init__» noKeywords Builtin.Frozenset.updateFrom
        generalize hPI : pyIter = PI
        wp_walk
        subst hPI
        refine wpAny_pyIter_list hl1 ?_
        refine wpAny_bind (wpAny_runValue ?_)
        have hh3 : A.in1.in1.in1.handled = none := by simp [hh]
        have n1 : l ≠ (s.heap.push (nul w)).objs.size := by
          rw [Heap.size_push]
          exact Nat.ne_of_lt (Nat.lt_succ_of_lt hlt)
        have n2 : s.heap.objs.size ∉ [(s.heap.push (nul w)).objs.size, l] := by
          rw [Heap.size_push]
          simp only [List.mem_cons, List.not_mem_nil, or_false, not_or]
          exact ⟨Nat.ne_of_lt (Nat.lt_succ_self _), Nat.ne_of_gt hlt⟩
        have vals : ∀ (i : Nat) (v : Value), items[i]? = some v → ∃ k t, ns[i]? = some k ∧ v = .int k t := fun i v hv => by
          have hi : i < ns.length := by rw [← hisz]; exact (Array.getElem?_eq_some_iff.mp hv).1
          obtain ⟨t, e⟩ := PyProof.Rows.IntsAre.int_at hit i v (by rw [Array.getElem?_toList]; exact hv)
          exact ⟨ns[i], t, List.getElem?_eq_getElem hi, by rw [e, List.getD_eq_getElem?_getD, List.getElem?_eq_getElem hi]; rfl⟩
        refine set_update_ints ((Walks.list hh3 _ l n1 items).toS) s.heap.objs.size n2 ns hisz hb vals (items.size - 0) 0 _ (by omega) (Nat.zero_le _)
          ⟨⟨_, Heap.get?_push_size _ rfl, rfl, rfl⟩, (hl1.push _)⟩ ⟨0, Nat.le_refl 0, setR_new_at (Heap.get?_push_of_some _ hS)⟩ fun s' c' hm hc' hS' => ?_
        obtain ⟨h', g2, d', tk', os'⟩ := s'
        obtain rfl : g2 = s.gens := hm.gens
        obtain rfl : d' = s.drawn := hm.drawn
        obtain rfl : os' = s.os := hm.os
        show wpAny _ _ _ _ _ _
        refine wpAny_pure ?_
        show wpAny _ _ (ret Value.none) _ _ _
        rw [hisz] at hc'
        refine wpAny_pure ⟨rfl, h', tk', c', rfl, hS', hc', fun b o e => ?_⟩
        have b0 : b < s.heap.objs.size := Heap.lt_size e
        refine hm.heap b o ?_ (Heap.get?_push_of_some _ (Heap.get?_push_of_some _ e))
        rw [Heap.size_push]
        simp only [List.mem_cons, List.not_mem_nil, or_false, not_or]
        exact ⟨Nat.ne_of_lt b0, Nat.ne_of_lt (Nat.lt_succ_of_lt b0)⟩
      · cases r2 with
        | error e => exact hr2
        | ok fl2 =>
          cases fl2 with
          | next => exact hr2.elim
          | brk => exact hr2.elim
          | cont => exact hr2.elim
          | ret r =>
            obtain ⟨rfl, hf⟩ := hr2
            have hf2 := hf
            obtain ⟨h', tk, c, rfl, _⟩ := hf2
            repeat (any_goals (first | assumption | wp_step))
            exact h _ hf
end
section
variable {X : Cx} {K : PySem.W.Frag} {w : World}
/-- set(xs), xs a list of ints -/
def rSetLI (K : PySem.W.Frag) (w : World) : List V → Hp → VK → Prop := fun xs H Q => ∃ (l : Addr) (ns : List Int), xs = [V.ref l] ∧ SqL K H l (ns.map V.int) ∧ ns.length + 1 < scanBound ∧
  ∀ p c, H p = none → c ≤ ns.length → Q (.ref p) (upd H p (SetO w p (fun j => decide (j ∈ ns)) c))
theorem cr_setLI (h : X.K = K) (hw : X.w = w) (hc : X.calm = true) : CallR X (.type "set") (rSetLI K w) := by
  subst h
  subst hw
  intro pins s σ H xs us Q I r h
  obtain ⟨l, ns, rfl, hl, hb, q⟩ := h
  rw [Vals.ref1 r]
  obtain ⟨its, rv, pl, hz⟩ := I.list hl
  refine set_of_list (P := X.prog) (w := X.w) ns (I.ok.hd hc) pl.isList rv.ints hb fun s2 hf => ?_
  obtain ⟨h', tk, c, rfl, R, hcl, hk⟩ := hf
  exact ⟨.ref _, upd H s.heap.objs.size (SetO X.w s.heap.objs.size (fun j => decide (j ∈ ns)) c), I.laid (t' := tk) hk (Nat.le_refl _) (setO_new R), rfl, q _ c (I.hok.fresh (Nat.le_refl _)) hcl⟩
theorem cr_sortedSet' (hw : X.w = w) (hc : X.calm = true) : CallR X (.builtin "sorted") (rSortedSet w) := by
  subst hw
  exact cr_sortedSet hc
end
end Tz

namespace Bx
open PySem PySem.Spec PyProof.Rows L2
def mf (I O L : Int) (ot rt : Addr) : List (Str × V) := putF "rows" (.ref rt) (putF "opening" (.ref ot) (putF "lead" (.int L) (putF "outputs" (.int O) (putF "inputs" (.int I) []))))
theorem mf_I (I O L : Int) (a b : Addr) : (mf I O L a b).lookup ("inputs" : Str) = some (.int I) := by
  unfold mf
  rw [lookup_putF, if_neg (by decide +kernel), lookup_putF, if_neg (by decide +kernel), lookup_putF, if_neg (by decide +kernel), lookup_putF, if_neg (by decide +kernel), lookup_putF, if_pos rfl]
theorem mf_O (I O L : Int) (a b : Addr) : (mf I O L a b).lookup ("outputs" : Str) = some (.int O) := by
  unfold mf
  rw [lookup_putF, if_neg (by decide +kernel), lookup_putF, if_neg (by decide +kernel), lookup_putF, if_neg (by decide +kernel), lookup_putF, if_pos rfl]
theorem mf_L (I O L : Int) (a b : Addr) : (mf I O L a b).lookup ("lead" : Str) = some (.int L) := by
  unfold mf
  rw [lookup_putF, if_neg (by decide +kernel), lookup_putF, if_neg (by decide +kernel), lookup_putF, if_pos rfl]
theorem mf_o (I O L : Int) (a b : Addr) : (mf I O L a b).lookup ("opening" : Str) = some (.ref a) := by
  unfold mf
  rw [lookup_putF, if_neg (by decide +kernel), lookup_putF, if_pos rfl]
theorem mf_r (I O L : Int) (a b : Addr) : (mf I O L a b).lookup ("rows" : Str) = some (.ref b) := by
  unfold mf
  rw [lookup_putF, if_pos rfl]
structure MchC (K : PySem.W.Frag) (C : Addr) : Prop where
  cl : Cls K C
  nI : NoAttr K C "inputs"
  nO : NoAttr K C "outputs"
  nL : NoAttr K C "lead"
  no : NoAttr K C "opening"
  nr : NoAttr K C "rows"
/-- rows of pairs -/
structure RP (mk : List V → HO) (H : Hp) (as : List Addr) (c : List (List (Int × Int))) : Prop where
  len : as.length = c.length
  g : ∀ (i : Nat) (a : Addr), as[i]? = some a → ∃ (bs : List Addr) (row : List (Int × Int)), c[i]? = some row ∧ H a = some (mk (bs.map V.ref)) ∧ bs.length = row.length ∧ ∀ (j : Nat) (b : Addr), bs[j]? = some b → ∃ t l, row[j]? = some (t, l) ∧ H b = some (.tup [.int t, .int l])
theorem RP.same {mk : List V → HO} {H H' : Hp} {as : List Addr} {c : List (List (Int × Int))} (s : Same H H') (h : RP mk H as c) : RP mk H' as c := ⟨h.len, fun i a e => by
  obtain ⟨bs, row, h1, h2, h3, h4⟩ := h.g i a e
  exact ⟨bs, row, h1, s _ _ h2, h3, fun j b hb => by obtain ⟨t, l, h5, h6⟩ := h4 j b hb; exact ⟨t, l, h5, s _ _ h6⟩⟩⟩
def LPr (H : Hp) (r : Addr) (as : List Addr) (c : List (List (Int × Int))) : Prop := H r = some (.lst (as.map V.ref)) ∧ RP .lst H as c
theorem LPr.same {H H' : Hp} {r : Addr} {as : List Addr} {c : List (List (Int × Int))} (s : Same H H') (h : LPr H r as c) : LPr H' r as c := ⟨s _ _ h.1, h.2.same s⟩
def MchAt (C : Addr) (H : Hp) (x : Addr) (I O L : Int) (op : List Int) (c : List (List (Int × Int))) : Prop := ∃ (dx ot rt : Addr) (as : List Addr), H x = some (.ins C dx (mf I O L ot rt)) ∧ TupI H ot op ∧ H rt = some (.tup (as.map V.ref)) ∧ RP .tup H as c
theorem mch_same {C : Addr} {H H' : Hp} {x : Addr} {I O L : Int} {op : List Int} {c : List (List (Int × Int))} (s : Same H H') (h : MchAt C H x I O L op c) : MchAt C H' x I O L op c := by
  obtain ⟨dx, ot, rt, as, e1, e2, e3, e4⟩ := h
  exact ⟨dx, ot, rt, as, s _ _ e1, s _ _ e2, s _ _ e3, e4.same s⟩
/-- objects that are no lists stay where only lists change -/
theorem RP.keepT {H H' : Hp} {as : List Addr} {c : List (List (Int × Int))} (k : ∀ b xs, H b = some (.tup xs) → H' b = some (.tup xs)) (h : RP .tup H as c) : RP .tup H' as c := ⟨h.len, fun i a e => by
  obtain ⟨bs, row, h1, h2, h3, h4⟩ := h.g i a e
  exact ⟨bs, row, h1, k _ _ h2, h3, fun j b hb => by obtain ⟨t, l, h5, h6⟩ := h4 j b hb; exact ⟨t, l, h5, k _ _ h6⟩⟩⟩
/-- what holds of a machine -/
structure Vm (I O L : Int) (op : List Int) (c : List (List (Int × Int))) : Prop where
  i1 : 1 ≤ I
  o1 : 1 ≤ O
  l0 : -3 ≤ L
  l1 : L ≤ 2
  op_len : (op.length : Int) = max 0 (-L)
  ne : c ≠ []
  w : ∀ r ∈ c, (r.length : Int) = I
  st : ∀ r ∈ c, ∀ p ∈ r, 0 ≤ p.1 ∧ p.1 < (c.length : Int)
  op_in : ∀ z ∈ op, 0 ≤ z ∧ z < O
  em : ∀ r ∈ c, ∀ p ∈ r, 0 ≤ p.2 ∧ p.2 < O
end Bx
/-! own rule: a tuple times 1 is that tuple -/
namespace Bx
open PySem PySem.Spec PyProof.Rows L2
theorem mul_one (l : Addr) (items : Array Value) (n : Nat) (dd : Option Addr) (sl : Array (Option Value)) (u : Tok) :
    Meets (Builtin.«tuple.__mul__» ⟨[.ref l, .int 1 u], []⟩) (fun _ R s => s.heap.get? l = some { cls := .type "tuple", dict := dd, data := .seq items n, slots := sl } ∧ R (.ok (.ret (.ref l))) s) := .of_wp fun prog w A R s h => by
  obtain ⟨hp, g, d, tk, os⟩ := s
  obtain ⟨hl, h⟩ := h
  have q1 := AutoSeq1.idx_int
  wp_walk using AutoSeq1.wpAny_loadPart' hl
  repeat (first
    | (refine wpAny_ite_true (decide_eq_true (by simp)) ?_; wp_walk using AutoSeq1.wpAny_loadPart' hl)
    | (refine wpAny_ite_false (decide_eq_false (by simp)) ?_; wp_walk using AutoSeq1.wpAny_loadPart' hl))
  exact ⟨_, rfl, h⟩
def rRep1 (K : PySem.W.Frag) : R2 := fun x y H Q => ∃ l k xs, x = .ref l ∧ y = .int k ∧ SqT K H l xs ∧ xs ≠ [] ∧ 1 ≤ k ∧ k ≤ 1000 ∧ xs.length ≤ 1000 ∧ (k = 1 → Q (.ref l) H) ∧ (2 ≤ k → ∀ p, H p = none → Q (.ref p) (upd H p (.tup (List.replicate k.toNat xs).flatten)))
theorem op_rep1K {X : Cx} {K : PySem.W.Frag} (h : X.K = K) : OpR X (binaryOp .Mult) (rRep1 K) := by
  subst h
  intro pins s σ H x y v u Q I rx ry h
  obtain ⟨l, k, xs, ex, ey, hT, hne, h1, h2, hz, q1, q2⟩ := h
  by_cases c : k = 1
  · subst c
    subst ex
    subst ey
    cases rx
    obtain ⟨t, rfl⟩ := ry
    obtain ⟨its, r, ⟨⟨cls, dd, data, sl⟩, ho, hc, n, hd⟩, _⟩ := I.tuple hT
    simp only at hc hd
    subst hc hd
    refine wpAny_binaryOp_repeat_ref (T := "tuple") (U := "int") (by decide) ⟨_, ho, rfl⟩ (fun s' => typeIs_int s' 1 t) noFill_tuple_mul F.fills_int_mul F.slot_int_rmul repeat_tuple F.slot_int_index.lookup
      (call_meets F.slot_int_rmul (typeIs_int s 1 t) F.entry_int_rmul (F.args_int_rmul_2 _ _) (int_rmul_tuple 1 t l its.toArray n dd sl)
        ⟨ho, rfl, ⟨_, ho, rfl⟩, call_meets F.slot_tuple_mul ⟨_, ho, rfl⟩ F.entry_tuple_mul (F.args_tuple_mul_2 _ _) (mul_one l its.toArray n dd sl t) ⟨ho, ?_⟩⟩)
    exact ⟨.ref l, H, I, rfl, q1 rfl⟩
  · exact op_repT pins s σ H x y v u Q I rx ry ⟨l, k, xs, ex, ey, hT, hne, by omega, h2, hz, q2 (by omega)⟩
end Bx
namespace Bx
open PySem PySem.Spec PyProof.Rows L2
section
variable {X : Cx} {K : PySem.W.Frag}
theorem pe_revLK {e : Expr} {te : TE} {k : Nat} {p1 p2 p3 pos : Pos} (h : X.K = K) (he : PE X e te) : PE X (.Subscript e (.Slice none none (some (.UnaryOp .USub (.Constant (.int 1) k p1) p2)) p3) pos) (tRevL K te) := by
  subst h
  exact pe_revL he
end
section
variable {X : Cx} {k : Nat} {C f : Addr} {fd : FuncData} {ps : List Str} {sp : Sp} {W : WX} {m fl : Str} {p pos apos : Pos} {e o : Expr} {es : List Expr} {ta : TE} {t : TA}
/-- o.f as a target -/
def gFld (K : PySem.W.Frag) (to : TE) (f : Str) : TG := fun v σ H Q => to σ H fun x H2 => ∃ a C dx fs, x = .ref a ∧ H2 a = some (.ins C dx fs) ∧ Cls K C ∧ NoAttr K C f ∧ fs.length < 1000 ∧ Q σ (upd H2 a (.ins C dx (putF f v fs)))
theorem pg_fld (ho : PE X o ta) (ha : ∀ v, assign (.Attribute o fl pos) X.env v = (do
      let ov ← holding [v] (eval o X.env)
      standAt pos.atName
      holding [v, ov] (setAttr ov fl v)
      release [v, ov] []) := by intro _; rfl) : PG X (.Attribute o fl pos) (gFld X.K ta fl) := by
  refine ⟨fun pins s σ H v u Q I r h => ?_⟩
  rw [ha]
  refine wpAny_bind (wpAny_holding (thn (ho.run pins s σ H _ I h) fun ov s1 ⟨x, H1, I1, r1, a, C, dx, fs, ex, ea, c, n, l, q⟩ => ?_))
  subst ex
  obtain rfl : ov = Value.ref a := r1
  refine wpAny_bind (wpAny_standAt (wpAny_bind (wpAny_holding (setattr_ok I1 ea c n l r fun s3 I3 => ?_))))
  exact wpAny_release ⟨σ, _, I3, q⟩
/-- o.m(e) where the method may raise, in a try -/
def tMethX (C : Addr) (m : Str) (sp : Sp) (E : L2.St → XK) (ta : TE) (t : TA) : TE := fun σ H Q => ta σ H fun x H1 => ∃ a dx fs, x = .ref a ∧ H1 a = some (.ins C dx fs) ∧ fs.lookup m = none ∧ t σ H1 fun vs H2 => sp (x :: vs) H2 Q (E σ)
theorem pe_methX {pl : Sem Bool} (he : PE X o ta) (c : Cls X.K C) (hm : Meth X.K C m f) (F : FnOk X.prog X.w X.K X.mg X.base (L2.CX X.prog X.w) k f fd ps sp) (hr : Room k X.A) (hb : Binds X.K fd ps []) (tk : Takes X W) (ha : PA X (e :: es) t)
    (hst : starEach (e :: es) X.env = (false, eval e X.env) :: starEach es X.env := by rfl) (hpl : (backTo pos (starEach es X.env)).any (·.1) = false := by rfl)
    (ht : eval (.Call (.Attribute o m apos) (e :: es) [] pos) X.env = (do
      let ov ← eval o X.env
      standAt apos.atName
      let (f, first) ← holding [ov] (getMethod ov m pl)
      callWith pos f first (backTo pos (starEach (e :: es) X.env)) (backToKw pos (keywordEach [] X.env))) := by rfl) :
    PE X (.Call (.Attribute o m apos) (e :: es) [] pos) (tMethX C m sp (WE W) ta t) := by
  refine ⟨fun pins s σ H Q I h => ?_⟩
  refine PySem.W.methodCall_KW (pl := pl) (thn (he.run pins s σ H _ I h) fun u s1 ⟨x, H1, I1, rx, a, dx, fs, ex, ea, l, q⟩ => ?_) ht
  subst ex
  obtain rfl : u = Value.ref a := rx
  refine getmeth_ok I1 ea c hm l ?_
  refine PySem.W.callWith_K (first := [.ref a]) (h₀ := X.base) I.ok.mod.kin hm.kp (thn (ha.run pos pins s1 σ H1 _ I1 q) fun us s2 ⟨vs, H2, I2, r, q2⟩ => ⟨I2.kIn, ?_⟩) hst hpl
  exact run_fnS (us := .ref a :: us) (vs := .ref a :: vs) F hr hb (passAt tk σ) I2 (.cons rfl r) q2
end
/-- a journal's attributes -/
def jf (ma : Addr) (sp : Int) (tx : Str) (st tu : Int) (an : Addr) : List (Str × V) := [("machine", .ref ma), ("spacing", .int sp), ("text", .str tx), ("state", .int st), ("turns", .int tu), ("answers", .ref an)]
theorem jf_text (ma sp tx st tu an t') : putF "text" (.str t') (jf ma sp tx st tu an) = jf ma sp t' st tu an := by rfl
theorem jf_state (ma sp tx st tu an t') : putF "state" (.int t') (jf ma sp tx st tu an) = jf ma sp tx t' tu an := by rfl
theorem jf_turns (ma sp tx st tu an t') : putF "turns" (.int t') (jf ma sp tx st tu an) = jf ma sp tx st t' an := by rfl
theorem jl_m (ma sp tx st tu an) : (jf ma sp tx st tu an).lookup ("machine" : Str) = some (V.ref ma) := by rfl
theorem jl_sp (ma sp tx st tu an) : (jf ma sp tx st tu an).lookup ("spacing" : Str) = some (V.int sp) := by rfl
theorem jl_tx (ma sp tx st tu an) : (jf ma sp tx st tu an).lookup ("text" : Str) = some (V.str tx) := by rfl
theorem jl_st (ma sp tx st tu an) : (jf ma sp tx st tu an).lookup ("state" : Str) = some (V.int st) := by rfl
theorem jl_tu (ma sp tx st tu an) : (jf ma sp tx st tu an).lookup ("turns" : Str) = some (V.int tu) := by rfl
theorem jl_an (ma sp tx st tu an) : (jf ma sp tx st tu an).lookup ("answers" : Str) = some (V.ref an) := by rfl
theorem jl_hear (ma sp tx st tu an) : (jf ma sp tx st tu an).lookup ("hear" : Str) = none := by rfl
theorem jf_new (ma : Addr) (sp : Int) (tx : Str) (an : Addr) : putF "answers" (.ref an) (putF "turns" (.int 0) (putF "state" (.int 0) (putF "text" (.str tx) (putF "spacing" (.int sp) (putF "machine" (.ref ma) []))))) = jf ma sp tx 0 0 an := by rfl
structure JrnC (K : PySem.W.Frag) (C : Addr) : Prop where
  cl : Cls K C
  nm : NoAttr K C "machine"
  nsp : NoAttr K C "spacing"
  ntx : NoAttr K C "text"
  nst : NoAttr K C "state"
  ntu : NoAttr K C "turns"
  nan : NoAttr K C "answers"
/-- all but some objects stay -/
def Kpl (l : List Addr) (H H' : Hp) : Prop := ∀ b o, b ∉ l → H b = some o → H' b = some o
theorem Kpl.refl (l : List Addr) (H : Hp) : Kpl l H H := fun _ _ _ h => h
theorem Kpl.trans {l : List Addr} {H H1 H2 : Hp} (a : Kpl l H H1) (b : Kpl l H1 H2) : Kpl l H H2 := fun x o n h => b _ _ n (a _ _ n h)
theorem Kpl.same {l : List Addr} {H H1 : Hp} (s : Same H H1) : Kpl l H H1 := fun x o _ h => s _ _ h
theorem Kpl.own {l : List Addr} {H : Hp} {a : Addr} {o : HO} (h : a ∈ l) : Kpl l H (upd H a o) := fun x o' n hx => by rw [upd_ne (fun z => n (by rw [z]; exact h))]; exact hx
theorem Kpl.more {l l' : List Addr} {H H1 : Hp} (k : Kpl l H H1) (h : ∀ a ∈ l, a ∈ l') : Kpl l' H H1 := fun x o n hx => k _ _ (fun z => n (h _ z)) hx
theorem sat {H H' : Hp} {a : Addr} {o : HO} (s : Same H H') (h : H a = some o) : H' a = some o := s _ _ h
end Bx
namespace Dm
open PySem PySem.Builtin TL
def pad (k : Nat) (l : List Nat) : List Nat := List.replicate (k - l.length) 48 ++ l
theorem pad_snoc (k : Nat) (l : List Nat) (c : Nat) : pad (k + 1) (l ++ [c]) = pad k l ++ [c] := by
  unfold pad
  rw [List.length_append, show k + 1 - (l.length + [c].length) = k - l.length by simp only [List.length_singleton]; omega, List.append_assoc]
theorem numL_pad : ∀ (k q r : Nat), 1 ≤ q → r < 10 ^ (k + 1) → numL (q * 10 ^ (k + 1) + r) = numL q ++ pad (k + 1) (numL r)
  | 0, q, r, hq, hr => by
    have hr : r < 10 := by simpa using hr
    rw [numL_step (by omega), show (q * 10 ^ (0 + 1) + r) / 10 = q by omega, show (q * 10 ^ (0 + 1) + r) % 10 = r by omega, numL_lt hr]
    rfl
  | k + 1, q, r, hq, hr => by
    have e1 : q * 10 ^ (k + 1 + 1) + r = (q * 10 ^ (k + 1)) * 10 + r := by rw [Nat.pow_succ 10 (k + 1), Nat.mul_assoc]
    have hp : 1 ≤ 10 ^ (k + 1) := Nat.one_le_iff_ne_zero.mpr (Nat.pos_iff_ne_zero.mp (Nat.pow_pos (by decide)))
    have hq1 : 1 ≤ q * 10 ^ (k + 1) := Nat.mul_le_mul hq hp
    have hr2 : r / 10 < 10 ^ (k + 1) := by
      rw [Nat.pow_succ 10 (k + 1)] at hr
      omega
    rw [e1, numL_step (by omega), show ((q * 10 ^ (k + 1)) * 10 + r) / 10 = q * 10 ^ (k + 1) + r / 10 by omega, show ((q * 10 ^ (k + 1)) * 10 + r) % 10 = r % 10 by omega, numL_pad k q (r / 10) hq hr2]
    by_cases h : r < 10
    · rw [numL_lt h, show r / 10 = 0 by omega, show r % 10 = r by omega, numL_lt (by decide : (0 : Nat) < 10)]
      unfold pad
      simp only [List.length_singleton]
      rw [show k + 1 + 1 - 1 = (k + 1 - 1) + 1 by omega, List.replicate_succ', List.append_assoc, List.append_assoc]
    · rw [numL_step (show 10 ≤ r by omega), pad_snoc, List.append_assoc]
theorem zf {r : Nat} (hr : r < 10 ^ 18) : tl (Txt.zfill (Str.ofString (toString ((r : Nat) : Int))) 18) = pad 18 (numL r) := by
  have hl : (Str.ofString (toString ((r : Nat) : Int))).length = (numL r).length := by rw [len_tl, tl_num]
  have hle := numL_len (by decide : 0 < 18) hr
  unfold Txt.zfill
  rw [hl]
  by_cases h : (18 : Int) ≤ ((numL r).length : Nat)
  · rw [if_pos h, tl_num]
    unfold pad
    rw [show 18 - (numL r).length = 0 by omega]
    rfl
  · rw [if_neg h]
    have hz : ∀ (x : Str) (m : Nat), (∀ c, x.cps[0]? = some c → 48 ≤ c) → tl (zfilled x m) = List.replicate m 48 ++ tl x := by
      intro x m hc
      unfold zfilled
      have hp : tl (Builtin.Str.padded x m 0 48) = List.replicate m 48 ++ tl x := by
        unfold Builtin.Str.padded
        show (Array.replicate m 48 ++ x.cps ++ Array.replicate 0 48).toList = _
        simp [tl]
      split
      · rename_i e; have := hc _ e; omega
      · rename_i e; have := hc _ e; omega
      · exact hp
    rw [hz, tl_num]
    · unfold pad
      rw [show (18 : Int).toNat - (numL r).length = 18 - (numL r).length from rfl]
    · intro c hc
      have : c ∈ numL r := by
        rw [← tl_num]
        have := Array.getElem?_eq_some_iff.mp hc
        obtain ⟨h1, h2⟩ := this
        exact Array.mem_toList_iff.mpr (by rw [← h2]; exact Array.getElem_mem h1)
      exact (numL_digits r c this).1
end Dm
namespace Bx
open PySem PySem.Spec PyProof.Rows L2
/-- for c in text -/
theorem for_str {x : Str} {g : TG} {tb : TS} {D : Ends} {σ : L2.St} {H : Hp} (Pv : Nat → L2.St → Hp → Prop) (h0 : Pv 0 σ H)
    (hs : ∀ i c σ H, x.cps[i]? = some c → Pv i σ H → g (.str ⟨#[c]⟩) σ H fun σ2 H2 => tb { D with nx := Pv (i + 1), ct := Pv (i + 1), bk := D.nx } σ2 H2) (hd : ∀ σ H, Pv x.cps.size σ H → D.nx σ H) :
    ∃ W : Nat → Nat → L2.St → Hp → Prop, (∃ m, W 0 m σ H) ∧ ∀ i m σ H, W i m σ H →
      ((Its x).stop i H ∧ D.nx σ H) ∨ ((Its x).go i H ∧ ∃ N : L2.St → Hp → Prop, (∀ σ' H', N σ' H' → ∃ m', m' < m ∧ W (i + 1) m' σ' H') ∧ ∀ v H', (Its x).yld i H v H' → g v σ H' fun σ2 H2 => tb { D with nx := N, ct := N, bk := D.nx } σ2 H2) := by
  refine ⟨fun i m σ H => m = x.cps.size - i ∧ i ≤ x.cps.size ∧ Pv i σ H, ⟨x.cps.size, by simp, Nat.zero_le _, h0⟩, ?_⟩
  rintro i m σ H ⟨rfl, hi, p⟩
  by_cases hlt : i < x.cps.size
  · refine .inr ⟨hlt, Pv (i + 1), fun σ' H' p' => ⟨x.cps.size - (i + 1), by omega, rfl, hlt, p'⟩, fun v H' y => ?_⟩
    obtain ⟨e, c, hc, rfl⟩ := y
    subst e
    exact hs i c σ _ hc p
  · have e : i = x.cps.size := by omega
    subst e
    exact .inl ⟨Nat.le_refl _, hd _ _ p⟩
end Bx
namespace Bx
open PySem PySem.Spec PyProof.Rows L2
/-- {k: v}, k a tuple of numbers and texts -/
def dispQ (p : Addr) (Q : VK) : List (V × V) → Hp → Prop
  | [(y, z)], H2 => ∃ (b : Addr) (ks : List L2.Key), y = .ref b ∧ H2 b = some (.tup (ks.map kV)) ∧ H2 p = some (.dT []) ∧ Q (.ref p) (upd H2 p (.dT [(ks, z)]))
  | _, _ => False
def tDispT (tk tv : TE) : TE := fun σ H Q => ∀ p, H p = none → tk σ (upd H p (.dT [])) fun y H1 => tv σ H1 fun z H2 => dispQ p Q [(y, z)] H2
theorem pe_dispT {X : Cx} {pos : Pos} {k v : Expr} {tk tv : TE} (hu : X.A.units + 1 < cLine) (hk : PE X k tk) (hv : PE X v tv) : PE X (.Dict [some k] [v] pos) (tDispT tk tv) := by
  refine ⟨fun pins s σ H Q I h => ?_⟩
  refine wpAny_Dict_any rfl rfl (by simp) (by show 1 ≤ 15; decide) ?_
  have hf : H s.heap.objs.size = none := I.hok.fresh (Nat.le_refl _)
  have h1 := h s.heap.objs.size hf
  have I1 : Inv X pins σ (upd H s.heap.objs.size (.dT [])) { heap := s.heap.push { cls := .type "dict", data := .dict #[] }, gens := s.gens, drawn := s.drawn, toks := s.toks, os := s.os } := by
    refine I.laid (t' := s.toks) (fun b o hb => ?_) (Nat.le_refl _) (dt_empty s.heap ?_)
    · exact Heap.get?_push_of_some _ hb
    · exact I.big
  refine wpAny_mono ((pps_cons hk hv pps_nil).run pins _ σ _ (dispQ s.heap.objs.size Q) I1 h1) (fun vs s1 hq => ?_) (fun _ _ z => z)
  obtain ⟨ps, H2, I2, rv, hq⟩ := hq
  match ps, rv, hq with
  | [(y, z)], rv, ⟨b, ks, e, eb, ed, q⟩ =>
    subst e
    obtain ⟨_, hsm, xs, kt, D⟩ := dt_of I2.hok ed
    cases kt
    cases rv with
    | cons r0 rt =>
      rename_i u0 us0
      cases rt
      obtain ⟨u, r⟩ := u0
      obtain ⟨ra, rb⟩ := r0
      cases ra
      unfold storeAll
      simp only [List.forIn_cons, List.forIn_nil]
      refine wpAny_bind (wpAny_bind (wpAny_dictSet_heap (knd := tupleKind (mixKind X.prog X.w)) (Nat.lt_of_le_of_lt (Nat.le_succ _) hu) (key_of I2.hok eb) D (fun h' D' sb => ?_) (by show 0 ≤ sizeLine; exact Nat.zero_le _)))
      refine wpAny_pure ?_
      refine wpAny_pure ?_
      refine ⟨.ref s.heap.objs.size, upd H2 s.heap.objs.size (.dT [(ks, z)]), ?_, rfl, q⟩
      refine d_write I2 (by rw [ed]; exact True.intro) sb ?_ ?_
      · obtain ⟨o, es, ep, g, _⟩ := D'
        exact ⟨o, g⟩
      · have nb : b ≠ s.heap.objs.size := fun e => by rw [e, ed] at eb; cases eb
        refine ⟨by show 1 ≤ sizeLine; decide, hsm, [(ks, b, r)], .cons ⟨rfl, by rw [upd_ne nb]; exact eb, rb⟩ .nil, ?_⟩
        obtain ⟨o, es, ep, g1, g2, g3, g4, _, g5⟩ := D'
        exact ⟨o, es, ep, g1, g2, g3, g4, g5⟩
theorem op_notInDK {X : Cx} {K : PySem.W.Frag} (h : X.K = K) (hu : X.A.units + 65 < cLine) : OpR X (compareOp .NotIn) (rNotInD K) := by
  subst h
  exact op_notInD hu
end Bx
namespace Gr
/-! Directed graphs as rows; what a depth-first order and components by it are. -/
abbrev G := List (List Nat)
def row (g : G) (u : Nat) : List Nat := g.getD u []
def E (g : G) (u v : Nat) : Prop := v ∈ row g u
inductive Rc (g : G) : Nat → Nat → Prop
  | refl (u : Nat) : Rc g u u
  | step {u v w : Nat} : E g u v → Rc g v w → Rc g u w
theorem Rc.one {g : G} {u v : Nat} (h : E g u v) : Rc g u v := .step h (.refl v)
theorem Rc.trans {g : G} {u v w : Nat} (h : Rc g u v) (k : Rc g v w) : Rc g u w := by
  induction h with
  | refl _ => exact k
  | step e _ ih => exact .step e (ih k)
theorem Rc.snoc {g : G} {u v w : Nat} (h : Rc g u v) (k : E g v w) : Rc g u w := h.trans (.one k)
/-- a way that leaves a set crosses its border -/
theorem Rc.cross {g : G} {S : Nat → Prop} {u v : Nat} (h : Rc g u v) (hu : S u) (hv : ¬ S v) : ∃ b y, S b ∧ E g b y ∧ ¬ S y ∧ Rc g u b ∧ Rc g y v := by
  induction h with
  | refl _ => exact absurd hu hv
  | @step a b c e r ih =>
    by_cases hb : S b
    · obtain ⟨x, y, h1, h2, h3, h4, h5⟩ := ih hb hv
      exact ⟨x, y, h1, h2, h3, .step e h4, h5⟩
    · exact ⟨a, b, hu, e, hb, .refl _, r⟩
def Ok (g : G) : Prop := ∀ u, ∀ v ∈ row g u, v < g.length
theorem Ok.rc {g : G} (h : Ok g) {u v : Nat} (r : Rc g u v) (hu : u < g.length) : v < g.length := by
  induction r with
  | refl _ => exact hu
  | step e _ ih => exact ih (h _ _ e)
/-- mutual -/
def Mu (g : G) (u v : Nat) : Prop := Rc g u v ∧ Rc g v u
theorem Mu.symm {g : G} {u v : Nat} (h : Mu g u v) : Mu g v u := ⟨h.2, h.1⟩
theorem Mu.refl (g : G) (u : Nat) : Mu g u u := ⟨.refl _, .refl _⟩
theorem Mu.trans {g : G} {u v w : Nat} (h : Mu g u v) (k : Mu g v w) : Mu g u w := ⟨h.1.trans k.1, k.2.trans h.2⟩

/-- the last one in a list -/
theorem last_split {P : Nat → Prop} : ∀ {l : List Nat}, (∃ x ∈ l, P x) → ∃ A w B, l = A ++ w :: B ∧ P w ∧ ∀ b ∈ B, ¬ P b
  | [], h => by obtain ⟨_, h, _⟩ := h; cases h
  | y :: l, h => by
    by_cases k : ∃ x ∈ l, P x
    · obtain ⟨A, w, B, e, h1, h2⟩ := last_split k
      exact ⟨y :: A, w, B, by rw [e]; rfl, h1, h2⟩
    · obtain ⟨x, hx, p⟩ := h
      rcases List.mem_cons.mp hx with rfl | hx
      · exact ⟨[], x, l, rfl, p, fun b hb z => k ⟨b, hb, z⟩⟩
      · exact absurd ⟨x, hx, p⟩ k

/-! ### the order of leaving -/
structure Dfs (g : G) (ord : List Nat) (stk : List (Nat × Nat)) : Prop where
  nd : (ord ++ stk.map (·.1)).Nodup
  lt : ∀ u ∈ ord ++ stk.map (·.1), u < g.length
  ch : stk.Pairwise fun a b => Rc g b.1 a.1
  fo : ∀ x ∈ stk, x.2 ≤ (row g x.1).length ∧ ∀ i y, i < x.2 → (row g x.1)[i]? = some y → y ∈ ord ++ stk.map (·.1)
  bl : ∀ b ∈ ord, ∀ y ∈ row g b, y ∈ ord ++ stk.map (·.1)
  sp : ∀ A u B, ord = A ++ u :: B → ∀ b ∈ A ++ [u], ∀ y ∈ row g b, y ∈ A ++ [u] ∨ Rc g y u
theorem Dfs.nil (g : G) : Dfs g [] [] := ⟨List.nodup_nil, fun u h => (by cases h), List.Pairwise.nil, fun x h => (by cases h), fun b h => (by cases h), fun A u B h => (by cases A <;> cases h)⟩
theorem mem_oc {ord : List Nat} {n f f' : Nat} {stk : List (Nat × Nat)} {y : Nat} : y ∈ ord ++ ((n, f) :: stk).map (·.1) ↔ y ∈ ord ++ ((n, f') :: stk).map (·.1) := Iff.rfl
/-- one edge more, to a node that has been found -/
theorem Dfs.skip {g : G} {ord : List Nat} {n f t : Nat} {stk : List (Nat × Nat)} (h : Dfs g ord ((n, f) :: stk)) (e : (row g n)[f]? = some t) (ht : t ∈ ord ++ ((n, f) :: stk).map (·.1)) : Dfs g ord ((n, f + 1) :: stk) := by
  refine ⟨h.nd, h.lt, ?_, fun x hx => ?_, h.bl, h.sp⟩
  · have := h.ch
    rw [List.pairwise_cons] at this ⊢
    exact this
  · rcases List.mem_cons.mp hx with rfl | hx
    · have hf : f < (row g n).length := by
        rcases Nat.lt_or_ge f (row g n).length with k | k
        · exact k
        · rw [List.getElem?_eq_none k] at e; cases e
      refine ⟨hf, fun i y hi hy => ?_⟩
      rcases Nat.lt_or_ge i f with k | k
      · exact (h.fo _ List.mem_cons_self).2 i y k hy
      · have : i = f := Nat.le_antisymm (Nat.le_of_lt_succ hi) k
        subst this
        have hy : (row g n)[i]? = some y := hy
        rw [e] at hy
        cases hy
        exact ht
    · exact h.fo x (List.mem_cons_of_mem _ hx)
theorem Dfs.skip2 {g : G} {ord : List Nat} {n f t : Nat} {s : Nat × Nat} {stk : List (Nat × Nat)} (h : Dfs g ord (s :: (n, f) :: stk)) (e : (row g n)[f]? = some t) (ht : t ∈ ord ++ (s :: (n, f) :: stk).map (·.1)) : Dfs g ord (s :: (n, f + 1) :: stk) := by
  refine ⟨h.nd, h.lt, ?_, fun x hx => ?_, h.bl, h.sp⟩
  · have := h.ch
    rw [List.pairwise_cons, List.pairwise_cons] at this ⊢
    refine ⟨fun a ha => ?_, this.2⟩
    rcases List.mem_cons.mp ha with rfl | ha
    · exact this.1 (n, f) List.mem_cons_self
    · exact this.1 a (List.mem_cons_of_mem _ ha)
  · rcases List.mem_cons.mp hx with rfl | hx
    · exact h.fo x List.mem_cons_self
    rcases List.mem_cons.mp hx with rfl | hx
    · have hf : f < (row g n).length := by
        rcases Nat.lt_or_ge f (row g n).length with k | k
        · exact k
        · rw [List.getElem?_eq_none k] at e; cases e
      refine ⟨hf, fun i y hi hy => ?_⟩
      rcases Nat.lt_or_ge i f with k | k
      · exact (h.fo (n, f) (by simp)).2 i y k hy
      · have : i = f := Nat.le_antisymm (Nat.le_of_lt_succ hi) k
        subst this
        have hy : (row g n)[i]? = some y := hy
        rw [e] at hy
        cases hy
        exact ht
    · exact h.fo x (by simp [hx])
/-- a new node -/
theorem Dfs.push {g : G} {ord : List Nat} {t : Nat} {stk : List (Nat × Nat)} (h : Dfs g ord stk) (hl : t < g.length) (ht : t ∉ ord ++ stk.map (·.1)) (hr : ∀ x ∈ stk, Rc g x.1 t) : Dfs g ord ((t, 0) :: stk) := by
  have up : ∀ y, y ∈ ord ++ stk.map (·.1) → y ∈ ord ++ ((t, 0) :: stk).map (·.1) := fun y hy => by
    rcases List.mem_append.mp hy with k | k
    · exact List.mem_append.mpr (.inl k)
    · exact List.mem_append.mpr (.inr (List.mem_cons_of_mem _ k))
  refine ⟨?_, fun u hu => ?_, ?_, fun x hx => ?_, fun b hb y hy => up y (h.bl b hb y hy), h.sp⟩
  · show (ord ++ t :: stk.map (·.1)).Nodup
    have hn := h.nd
    rw [List.nodup_append] at hn ⊢
    refine ⟨hn.1, ?_, fun a ha b hb => ?_⟩
    · rw [List.nodup_cons]
      exact ⟨fun z => ht (List.mem_append.mpr (.inr z)), hn.2.1⟩
    · rcases List.mem_cons.mp hb with rfl | hb
      · exact fun z => ht (List.mem_append.mpr (.inl (z ▸ ha)))
      · exact hn.2.2 a ha b hb
  · rcases List.mem_append.mp hu with k | k
    · exact h.lt u (List.mem_append.mpr (.inl k))
    · rcases List.mem_cons.mp k with rfl | k
      · exact hl
      · exact h.lt u (List.mem_append.mpr (.inr k))
  · rw [List.pairwise_cons]
    exact ⟨fun x hx => hr x hx, h.ch⟩
  · rcases List.mem_cons.mp hx with rfl | hx
    · exact ⟨Nat.zero_le _, fun i y hi => absurd hi (Nat.not_lt_zero _)⟩
    · exact ⟨(h.fo x hx).1, fun i y hi hy => up y ((h.fo x hx).2 i y hi hy)⟩
/-- the top is left -/
theorem Dfs.pop {g : G} {ord : List Nat} {n : Nat} {stk : List (Nat × Nat)} (h : Dfs g ord ((n, (row g n).length) :: stk)) : Dfs g (ord ++ [n]) stk := by
  have perm : ∀ y, y ∈ ord ++ ((n, (row g n).length) :: stk).map (·.1) ↔ y ∈ (ord ++ [n]) ++ stk.map (·.1) := fun y => by
    rw [List.append_assoc]; rfl
  have succ : ∀ y ∈ row g n, y ∈ ord ++ ((n, (row g n).length) :: stk).map (·.1) := fun y hy => by
    obtain ⟨i, hi⟩ := List.mem_iff_getElem?.mp hy
    have hl : i < (row g n).length := by
      rcases Nat.lt_or_ge i (row g n).length with k | k
      · exact k
      · rw [List.getElem?_eq_none k] at hi; cases hi
    exact (h.fo _ List.mem_cons_self).2 i y hl hi
  have ch := h.ch
  rw [List.pairwise_cons] at ch
  refine ⟨?_, fun u hu => h.lt u ((perm u).mpr hu), ch.2, fun x hx => ?_, fun b hb y hy => ?_, fun A u B e b hb y hy => ?_⟩
  · have := h.nd
    rw [List.append_assoc]
    exact this
  · have := h.fo x (List.mem_cons_of_mem _ hx)
    exact ⟨this.1, fun i y hi hy => (perm y).mp (this.2 i y hi hy)⟩
  · rcases List.mem_append.mp hb with k | k
    · exact (perm y).mp (h.bl b k y hy)
    · rw [List.mem_singleton] at k
      subst k
      exact (perm y).mp (succ y hy)
  · rcases List.eq_nil_or_concat B with rfl | ⟨B', z, rfl⟩
    · have e2 := List.append_inj' e rfl
      have eA := e2.1
      have eu : n = u := (List.cons.inj e2.2).1
      subst eA; subst eu
      have hy' : y ∈ ord ++ ((n, (row g n).length) :: stk).map (·.1) := by
        rcases List.mem_append.mp hb with k | k
        · exact h.bl b k y hy
        · rw [List.mem_singleton] at k
          subst k
          exact succ y hy
      rcases List.mem_append.mp hy' with k | k
      · exact .inl (List.mem_append.mpr (.inl k))
      · rcases List.mem_cons.mp k with k | k
        · exact .inl (List.mem_append.mpr (.inr (by rw [k]; exact List.mem_singleton.mpr rfl)))
        · obtain ⟨x, hx, rfl⟩ := List.mem_map.mp k
          exact .inr (ch.1 x hx)
    · have e2 : ord ++ [n] = (A ++ u :: B') ++ [z] := by rw [e, List.concat_eq_append, List.append_assoc]; rfl
      exact h.sp A u B' (List.append_inj' e2 rfl).1 b hb y hy

/-- what a finished search has -/
structure Fin (g : G) (ord : List Nat) : Prop where
  nd : ord.Nodup
  all : ∀ u, u ∈ ord ↔ u < g.length
  sp : ∀ A u B, ord = A ++ u :: B → ∀ b ∈ A ++ [u], ∀ y ∈ row g b, y ∈ A ++ [u] ∨ Rc g y u
theorem Dfs.fin {g : G} {ord : List Nat} (h : Dfs g ord []) (k : ∀ u, u < g.length → u ∈ ord) : Fin g ord := by
  have hn := h.nd
  simp only [List.map_nil, List.append_nil] at hn
  exact ⟨hn, fun u => ⟨fun z => h.lt u (List.mem_append.mpr (.inl z)), k u⟩, h.sp⟩
theorem nodup_split {A B : List Nat} {w : Nat} (h : (A ++ w :: B).Nodup) : w ∉ A ∧ w ∉ B ∧ ∀ a ∈ A, a ∉ B := by
  rw [List.nodup_append, List.nodup_cons] at h
  exact ⟨fun z => h.2.2 w z w List.mem_cons_self rfl, h.2.1.1, fun a ha hb => h.2.2 a ha a (List.mem_cons_of_mem _ hb) rfl⟩
/-- from a node that may not stand behind s (nor its companions) no way leads to s, but in a circle -/
theorem Fin.back {g : G} {A B : List Nat} {s u : Nat} (ok : Ok g) (h : Fin g (A ++ s :: B)) (hu : u < g.length) (r : Rc g u s) (no : ∀ b ∈ B, ¬ Mu g u b) : Rc g s u := by
  obtain ⟨A1, w, B1, e, hw, hB⟩ := last_split (P := fun x => Mu g u x) (l := A ++ s :: B) ⟨u, (h.all u).mpr hu, Mu.refl g u⟩
  have nd := h.nd
  have hwm : w ∈ A ++ s :: B := by rw [e]; simp
  by_cases ews : w = s
  · subst ews; exact hw.2
  have hwA : w ∈ A := by
    rcases List.mem_append.mp hwm with k | k
    · exact k
    · rcases List.mem_cons.mp k with k | k
      · exact absurd k ews
      · exact absurd hw (no w k)
  -- s stands behind w
  have hsB : s ∉ A1 ++ [w] := by
    intro hs
    have hs1 : s ∈ A1 := by
      rcases List.mem_append.mp hs with k | k
      · exact k
      · exact absurd (List.mem_singleton.mp k).symm ews
    -- then A is shorter than A1: w ∈ A stands ahead of s, so w ∈ A1
    obtain ⟨C, D, eC⟩ := List.append_of_mem hs1
    have e2 : A ++ s :: B = C ++ s :: (D ++ w :: B1) := by rw [e, eC, List.append_assoc]; rfl
    have nd2 := nd
    rw [e2] at nd2
    have n1 := nodup_split nd
    have n2 := nodup_split nd2
    have : w ∈ B := by
      rcases List.append_eq_append_iff.mp e2 with ⟨F, h1, h2⟩ | ⟨F, h1, h2⟩
      · cases F with
        | nil => rw [List.nil_append] at h2; rw [(List.cons.inj h2).2]; simp
        | cons x F =>
          have h3 := List.cons.inj h2
          exact absurd (by rw [h1, ← h3.1]; simp) n2.1
      · cases F with
        | nil => rw [List.nil_append] at h2; rw [← (List.cons.inj h2).2]; simp
        | cons x F =>
          have h3 := List.cons.inj h2
          exact absurd (by rw [h1, ← h3.1]; simp) n1.1
    exact n1.2.2 w hwA this
  have huA : u ∈ A1 ++ [w] := by
    have hum : u ∈ A1 ++ w :: B1 := by rw [← e]; exact (h.all u).mpr hu
    rcases List.mem_append.mp hum with k | k
    · exact List.mem_append.mpr (.inl k)
    · rcases List.mem_cons.mp k with k | k
      · rw [k]; simp
      · exact absurd (Mu.refl g u) (hB u k)
  obtain ⟨b, y, hb, hy, hny, r1, r2⟩ := r.cross (S := fun x => x ∈ A1 ++ [w]) huA hsB
  rcases h.sp A1 w B1 e b hb y hy with k | k
  · exact absurd k hny
  · have mu : Mu g u y := ⟨r1.snoc hy, k.trans hw.2⟩
    have hym : y ∈ A1 ++ w :: B1 := by rw [← e]; exact (h.all y).mpr (ok b y hy)
    rcases List.mem_append.mp hym with z | z
    · exact absurd (List.mem_append.mpr (.inl z)) hny
    · rcases List.mem_cons.mp z with z | z
      · exact absurd (by rw [z]; simp) hny
      · exact absurd mu (hB y z)

/-! ### components: homes are numbers of nodes, -1 for none -/
/-- H u is u's number if it has one -/
structure Cmp (g : G) (H : Nat → Option Nat) (c : Nat) : Prop where
  lt : ∀ u i, H u = some i → i < c ∧ u < g.length
  eq : ∀ u v i j, H u = some i → H v = some j → (i = j ↔ Mu g u v)
  mu : ∀ u v i, H u = some i → Mu g u v → H v ≠ none
  ed : ∀ u v j, E g u v → u < g.length → H v = some j → ∃ i, H u = some i ∧ i ≤ j
  us : ∀ i, i < c → ∃ u, H u = some i
theorem Cmp.nil (g : G) : Cmp g (fun _ => none) 0 := ⟨fun _ _ h => (by cases h), fun _ _ _ _ h => (by cases h), fun _ _ _ h => (by cases h), fun _ _ _ _ _ h => (by cases h), fun i h => absurd h (Nat.not_lt_zero i)⟩
theorem Cmp.rc {g : G} {H : Nat → Option Nat} {c : Nat} (h : Cmp g H c) {u v j : Nat} (ok : Ok g) (r : Rc g u v) (hu : u < g.length) (hv : H v = some j) : ∃ i, H u = some i ∧ i ≤ j := by
  induction r with
  | refl _ => exact ⟨j, hv, Nat.le_refl _⟩
  | step e _ ih =>
    obtain ⟨i, h1, h2⟩ := ih (ok _ _ e) hv
    obtain ⟨i', h3, h4⟩ := h.ed _ _ i e hu h1
    exact ⟨i', h3, Nat.le_trans h4 h2⟩
/-- one component more: the set S of the nodes without a number from which start can be reached -/
theorem Cmp.more {g : G} {H H' : Nat → Option Nat} {c s : Nat} {A B : List Nat} (ok : Ok g) (h : Cmp g H c) (f : Fin g (A ++ s :: B)) (hB : ∀ b ∈ B, H b ≠ none) (hs : H s = none)
    (h1 : ∀ u i, H u = some i → H' u = some i) (h2 : ∀ u i, H u = none → H' u = some i → i = c ∧ u < g.length ∧ Rc g u s) (h3 : ∀ u, u < g.length → Rc g u s → H u = none → H' u = some c) : Cmp g H' (c + 1) := by
  have hsl : s < g.length := (f.all s).mp (by simp)
  -- the new ones are mutual with s
  have new : ∀ u, H u = none → u < g.length → Rc g u s → Mu g u s := fun u hu hl r => ⟨r, f.back ok hl r fun b hb m => by
    cases e : H b with
    | none => exact hB b hb e
    | some i => exact h.mu b u i e m.symm hu⟩
  have old : ∀ u i, H' u = some i → H u = some i ∨ (H u = none ∧ i = c ∧ u < g.length ∧ Mu g u s) := fun u i e => by
    cases k : H u with
    | none =>
      obtain ⟨e1, e2, e3⟩ := h2 u i k e
      exact .inr ⟨rfl, e1, e2, new u k e2 e3⟩
    | some j =>
      rw [h1 u j k] at e
      exact .inl e
  refine ⟨fun u i e => ?_, fun u v i j e1 e2 => ?_, fun u v i e m => ?_, fun u v j e hu ev => ?_, fun i hi => ?_⟩
  · rcases old u i e with k | ⟨_, k1, k2, _⟩
    · exact ⟨Nat.lt_succ_of_lt (h.lt u i k).1, (h.lt u i k).2⟩
    · exact ⟨by omega, k2⟩
  · rcases old u i e1 with k | ⟨a1, a2, a3, a4⟩ <;> rcases old v j e2 with l | ⟨b1, b2, b3, b4⟩
    · exact h.eq u v i j k l
    · refine ⟨fun z => ?_, fun m => absurd b1 (h.mu u v i k m)⟩
      have := (h.lt u i k).1
      omega
    · refine ⟨fun z => ?_, fun m => absurd a1 (h.mu v u j l m.symm)⟩
      have := (h.lt v j l).1
      omega
    · exact ⟨fun _ => a4.trans b4.symm, fun _ => by rw [a2, b2]⟩
  · rcases old u i e with k | ⟨a1, a2, a3, a4⟩
    · intro z
      cases e' : H v with
      | none => exact h.mu u v i k m e'
      | some j => rw [h1 v j e'] at z; cases z
    · intro z
      have hv : v < g.length := ok.rc m.1 a3
      cases e' : H v with
      | none => rw [h3 v hv (m.2.trans a4.1) e'] at z; cases z
      | some j => rw [h1 v j e'] at z; cases z
  · rcases old v j ev with k | ⟨a1, a2, a3, a4⟩
    · obtain ⟨i, k1, k2⟩ := h.ed u v j e hu k
      exact ⟨i, h1 u i k1, k2⟩
    · cases k : H u with
      | none => exact ⟨c, h3 u hu (.step e a4.1) k, by omega⟩
      | some i => exact ⟨i, h1 u i k, by have := (h.lt u i k).1; omega⟩
  · rcases Nat.lt_or_ge i c with k | k
    · obtain ⟨u, e⟩ := h.us i k
      exact ⟨u, h1 u i e⟩
    · exact ⟨s, by rw [h3 s hsl (.refl s) hs]; congr 1; omega⟩
/-- finished: every node has a number -/
structure Comps (g : G) (h : List Nat) (c : Nat) : Prop where
  len : h.length = g.length
  lt : ∀ i ∈ h, i < c
  eq : ∀ u v i j, h[u]? = some i → h[v]? = some j → (i = j ↔ Mu g u v)
  ed : ∀ u v i j, E g u v → h[u]? = some i → h[v]? = some j → i ≤ j
  us : ∀ i, i < c → i ∈ h
/-- on a cycle -/
def Cyc (g : G) (u : Nat) : Prop := ∃ v, E g u v ∧ Rc g v u
theorem Rc.cases_step {g : G} {u v : Nat} (r : Rc g u v) : u = v ∨ ∃ w, E g u w ∧ Rc g w v := by
  cases r with
  | refl _ => exact .inl rfl
  | step e r => exact .inr ⟨_, e, r⟩
/-- a node's component has an inner edge exactly if the node lies on a cycle -/
theorem cyc_iff {g : G} {h : List Nat} {c : Nat} (ok : Ok g) (k : Comps g h c) {u i : Nat} (hu : h[u]? = some i) : Cyc g u ↔ ∃ a b, E g a b ∧ h[a]? = some i ∧ h[b]? = some i := by
  have hl : ∀ {x j : Nat}, h[x]? = some j → x < g.length := fun {x j} e => by
    rw [← k.len]
    rcases Nat.lt_or_ge x h.length with z | z
    · exact z
    · rw [List.getElem?_eq_none z] at e; cases e
  constructor
  · rintro ⟨v, e, r⟩
    have hv : v < h.length := by rw [k.len]; exact ok u v e
    refine ⟨u, v, e, hu, ?_⟩
    have e2 := List.getElem?_eq_getElem hv
    rw [e2]
    congr 1
    exact ((k.eq u v i _ hu e2).mpr ⟨.one e, r⟩).symm
  · rintro ⟨a, b, e, ha, hb⟩
    have m1 := (k.eq u a i i hu ha).mp rfl
    have m2 := (k.eq u b i i hu hb).mp rfl
    rcases m1.1.cases_step with rfl | ⟨w, e1, r1⟩
    · exact ⟨b, e, m2.2⟩
    · exact ⟨w, e1, r1.trans (.step e m2.2)⟩

/-! ### all edges turned round -/
def Rev (g t : G) : Prop := t.length = g.length ∧ ∀ u v, E t v u ↔ (E g u v ∧ u < g.length ∧ v < g.length)
/-! ### what can be reached -/
theorem rc_sets {g : G} {S : Nat → Prop} (cl : ∀ u v, S u → E g u v → S v) {u v : Nat} (r : Rc g u v) (hu : S u) : S v := by
  induction r with
  | refl _ => exact hu
  | step e _ ih => exact ih (cl _ _ hu e)
/-! ### counting -/
def wsum (w : Nat → Nat) (l : List Nat) : Nat := (l.map w).foldr (· + ·) 0
theorem wsum_cons (w : Nat → Nat) (x : Nat) (l : List Nat) : wsum w (x :: l) = w x + wsum w l := rfl
theorem wsum_append (w : Nat → Nat) (l m : List Nat) : wsum w (l ++ m) = wsum w l + wsum w m := by
  induction l with
  | nil => simp [wsum]
  | cons x l ih => rw [List.cons_append, wsum_cons, wsum_cons, ih]; omega
def below (w : Nat → Nat) : Nat → Nat
  | 0 => 0
  | n + 1 => below w n + w n
theorem wsum_erase (w : Nat → Nat) (x : Nat) : ∀ {l : List Nat}, x ∈ l → wsum w l = w x + wsum w (l.erase x)
  | [], h => by cases h
  | y :: l, h => by
    by_cases e : y = x
    · subst e
      rw [List.erase_cons_head]; rfl
    · rw [List.erase_cons_tail (by simpa using e), wsum_cons, wsum_cons]
      rcases List.mem_cons.mp h with k | k
      · exact absurd k.symm e
      · rw [wsum_erase w x k]; omega
theorem wsum_le (w : Nat → Nat) : ∀ (n : Nat) {l : List Nat}, l.Nodup → (∀ x ∈ l, x < n) → wsum w l ≤ below w n
  | 0, l, _, h => by
    cases l with
    | nil => exact Nat.le_refl 0
    | cons x l => exact absurd (h x List.mem_cons_self) (Nat.not_lt_zero x)
  | n + 1, l, nd, h => by
    by_cases k : n ∈ l
    · rw [wsum_erase w n k]
      have := wsum_le w n (l := l.erase n) (nd.erase n) fun x hx => by
        have h1 := h x (List.mem_of_mem_erase hx)
        have h2 : x ≠ n := fun z => by
          rw [z] at hx
          exact (List.Nodup.mem_erase_iff nd).mp hx |>.1 rfl
        omega
      show _ ≤ below w n + w n
      omega
    · have := wsum_le w n nd fun x hx => by
        have h1 := h x hx
        have h2 : x ≠ n := fun z => k (z ▸ hx)
        omega
      show _ ≤ below w n + w n
      omega
def steps (g : G) (ord : List Nat) (stk : List (Nat × Nat)) : Nat := wsum (fun u => (row g u).length + 1) ord + wsum (·) (stk.map (·.2))
theorem steps_lt {g : G} {ord : List Nat} {stk : List (Nat × Nat)} {x : Nat × Nat} (h : Dfs g ord (x :: stk)) : steps g ord (x :: stk) < below (fun u => (row g u).length + 1) g.length := by
  have h1 := wsum_le (fun u => (row g u).length + 1) g.length h.nd h.lt
  rw [wsum_append] at h1
  have h2 : ∀ l : List (Nat × Nat), (∀ y ∈ l, y.2 ≤ (row g y.1).length) → wsum (·) (l.map (·.2)) + l.length ≤ wsum (fun u => (row g u).length + 1) (l.map (·.1)) := by
    intro l
    induction l with
    | nil => intro _; exact Nat.le_refl 0
    | cons y l ih =>
      intro hl
      have a := hl y List.mem_cons_self
      have b := ih fun z hz => hl z (List.mem_cons_of_mem _ hz)
      simp only [List.map_cons, wsum_cons, List.length_cons]
      omega
  have h3 := h2 (x :: stk) fun y hy => (h.fo y hy).1
  simp only [List.length_cons] at h3
  unfold steps
  omega
theorem steps_pop {g : G} {ord : List Nat} {n : Nat} {stk : List (Nat × Nat)} : steps g (ord ++ [n]) stk = steps g ord ((n, (row g n).length) :: stk) + 1 := by
  unfold steps
  rw [wsum_append]
  simp only [List.map_cons, wsum_cons]
  show _ + ((row g n).length + 1 + 0) + _ = _
  omega
theorem steps_skip {g : G} {ord : List Nat} {n f : Nat} {stk : List (Nat × Nat)} : steps g ord ((n, f + 1) :: stk) = steps g ord ((n, f) :: stk) + 1 := by
  unfold steps
  simp only [List.map_cons, wsum_cons]
  omega
theorem steps_push {g : G} {ord : List Nat} {n : Nat} {stk : List (Nat × Nat)} : steps g ord ((n, 0) :: stk) = steps g ord stk := by
  unfold steps
  simp only [List.map_cons, wsum_cons]
  omega
end Gr
namespace Bx
open PySem PySem.Spec PyProof.Rows L2
abbrev VN (n : Nat) : V := .int (n : Int)
def Sq (K : PySem.W.Frag) (H : Hp) (a : Addr) (xs : List V) : Prop := SqL K H a xs ∨ SqT K H a xs
theorem sqL_same {K : PySem.W.Frag} {H H' : Hp} {a : Addr} {xs : List V} (s : Same H H') (h : SqL K H a xs) : SqL K H' a xs := by
  rcases h with h | h
  · exact .inl (by
      rcases h with h | ⟨o, h⟩
      · exact .inl (s _ _ h)
      · exact .inr ⟨o, s _ _ h⟩)
  · exact .inr h
theorem sqT_same {K : PySem.W.Frag} {H H' : Hp} {a : Addr} {xs : List V} (s : Same H H') (h : SqT K H a xs) : SqT K H' a xs := by
  rcases h with h | h
  · exact .inl (by
      rcases h with h | ⟨o, h⟩
      · exact .inl (s _ _ h)
      · exact .inr ⟨o, s _ _ h⟩)
  · exact .inr h
theorem Sq.same {K : PySem.W.Frag} {H H' : Hp} {a : Addr} {xs : List V} (s : Same H H') (h : Sq K H a xs) : Sq K H' a xs := by
  rcases h with h | h
  · exact .inl (sqL_same s h)
  · exact .inr (sqT_same s h)
theorem nw {H H1 : Hp} {p : Addr} {o : HO} (hp : H p = none) (e : upd H p o = H1) : Same H H1 ∧ H1 p = some o := e ▸ ⟨same_new hp, upd_same⟩
theorem mw {H0 H H1 : Hp} {p : Addr} {o : HO} (s : Same H0 H) (hp : H0 p = none) (e : upd H p o = H1) : Same H0 H1 ∧ H1 p = some o ∧ ∀ q, q ≠ p → H1 q = H q := e ▸ ⟨fun b x hb => by
  rw [upd_ne (ne_of_none hb hp)]
  exact s _ _ hb, upd_same, fun q hq => upd_ne hq⟩
theorem mwt {H H1 : Hp} {p : Addr} {o : HO} {l : List V} (h : H p = some (.lst l)) (e : upd H p o = H1) : ∀ b xs, H b = some (.tup xs) → H1 b = some (.tup xs) := e ▸ fun b xs hb => by
  rw [upd_ne (fun z => by rw [z, h] at hb; cases hb)]
  exact hb
theorem Same.fr {H H' : Hp} {p : Addr} (s : Same H H') (h : H' p = none) : H p = none := by
  cases e : H p with
  | none => rfl
  | some o => rw [s _ _ e] at h; cases h
/-- a graph, by rows of lists or tuples -/
def GrAt (K : PySem.W.Frag) (H : Hp) (r : Addr) (g : Gr.G) : Prop := ∃ as : List Addr, Sq K H r (as.map V.ref) ∧ as.length = g.length ∧ ∀ i a, as[i]? = some a → Sq K H a ((Gr.row g i).map VN)
theorem GrAt.same {K : PySem.W.Frag} {H H' : Hp} {r : Addr} {g : Gr.G} (s : Same H H') (h : GrAt K H r g) : GrAt K H' r g := by
  obtain ⟨as, h1, h2, h3⟩ := h
  exact ⟨as, h1.same s, h2, fun i a e => (h3 i a e).same s⟩
theorem iteB_t {c : Bool} {A B : Prop} (e : c = true) (h : A) : if c = true then A else B := by rw [if_pos e]; exact h
theorem iteB_f {c : Bool} {A B : Prop} (e : c = false) (h : B) : if c = true then A else B := by rw [if_neg (by rw [e]; exact Bool.false_ne_true)]; exact h
theorem snocg {α : Type} {xs : List α} {x y : α} {j : Nat} (h : (xs ++ [x])[j]? = some y) : (j < xs.length ∧ xs[j]? = some y) ∨ (j = xs.length ∧ y = x) := by
  rcases Nat.lt_or_ge j xs.length with c | c
  · rw [List.getElem?_append_left c] at h
    exact .inl ⟨c, h⟩
  · rw [List.getElem?_append_right c] at h
    have e : j - xs.length = 0 := by
      cases e : j - xs.length with
      | zero => rfl
      | succ n => rw [e] at h; cases h
    rw [e] at h
    exact .inr ⟨by omega, (Option.some.inj h).symm⟩
theorem nats_get {xs : List Nat} {j : Nat} {y : V} (h : (xs.map VN)[j]? = some y) : ∃ t, xs[j]? = some t ∧ y = VN t := by
  rw [List.getElem?_map] at h
  cases e : xs[j]? with
  | none => rw [e] at h; cases h
  | some t => rw [e] at h; exact ⟨t, rfl, (Option.some.inj h).symm⟩
theorem refsg {as : List Addr} {i : Nat} {v : V} (h : (as.map V.ref)[i]? = some v) : ∃ a, as[i]? = some a ∧ v = .ref a := by
  rw [List.getElem?_map] at h
  cases e : as[i]? with
  | none => rw [e] at h; cases h
  | some z => rw [e] at h; exact ⟨z, rfl, (Option.some.inj h).symm⟩
theorem mapg {α β : Type} {f : α → β} {xs : List α} {i : Nat} {y : β} (h : (xs.map f)[i]? = some y) : ∃ x, xs[i]? = some x ∧ y = f x := by
  rw [List.getElem?_map] at h
  cases e : xs[i]? with
  | none => rw [e] at h; cases h
  | some z => rw [e] at h; exact ⟨z, rfl, (Option.some.inj h).symm⟩
/-- an item by its number, as atI wants it -/
theorem atN {α : Type} {f : α → V} {xs : List α} {i : Nat} {x : α} (h : xs[i]? = some x) : atI (xs.map f) (i : Int) = some (f x) := atI_nat (by rw [List.getElem?_map, h]; rfl)
theorem lt_of_get {α : Type} {xs : List α} {i : Nat} {x : α} (h : xs[i]? = some x) : i < xs.length := (List.getElem?_eq_some_iff.mp h).1
theorem nd_inj {α : Type} {xs : List α} (h : xs.Nodup) {i j : Nat} {x : α} (h1 : xs[i]? = some x) (h2 : xs[j]? = some x) : i = j := (List.getElem?_inj (lt_of_get h1) h).mp (h1.trans h2.symm)
theorem for_sqB {K : PySem.W.Frag} {i : Nat} {a : Addr} {xs : List V} {g : TG} {tb : TS} {D : Ends} {σ : L2.St} {H0 H : Hp} (hv : σ[i]? = some (some (.ref a))) (hq : SeqV H0 a xs) (Pv : Nat → L2.St → Hp → Prop) (h0 : Pv 0 σ H) (hS : ∀ i σ' H', Pv i σ' H' → Same H0 H')
    (hs : ∀ i x σ H, xs[i]? = some x → Pv i σ H → g x σ H fun σ2 H2 => tb { D with nx := Pv (i + 1), ct := Pv (i + 1), bk := D.nx } σ2 H2) (hd : ∀ σ H, Pv xs.length σ H → D.nx σ H) : tFor (iSeq K (tVar i)) g tb D σ H := by
  rcases hq with h | h
  · exact .inl ⟨_, hv, a, rfl, ⟨_, .of (hS 0 σ H h0 _ _ h)⟩, for_list Pv h0 (fun i σ' H' _ p => .of (hS i σ' H' p _ _ h)) hs hd⟩
  · exact .inr ⟨_, hv, a, rfl, ⟨_, .of (hS 0 σ H h0 _ _ h)⟩, for_tup Pv h0 (fun i σ' H' _ p => .of (hS i σ' H' p _ _ h)) hs hd⟩
/-- a dict comprehension over anything walked -/
theorem dc_it {J : It} {n : Nat} {G : Hp → Prop} {Y : Nat → Hp → V → Hp → Prop} (w : Walk J n G Y) {g : TG} {tt : TT} {tk tv : TE} {vs : List Nat} {σ : L2.St} {H1 : Hp} {D : Addr} {Qd : Hp → Prop} (Pv : Nat → Hp → Prop) (h0 : Pv 0 (upd H1 D (.dK []))) (hG : ∀ i H, i ≤ n → Pv i H → G H)
    (hs : ∀ i x H H', i < n → Pv i H → Y i H x H' → g x (wipe σ vs) H' fun σ2 H2 => wipe σ2 vs = wipe σ vs ∧ tt σ2 H2 fun b H3 =>
      if b = true then tk σ2 H3 fun y H4 => tv σ2 H4 fun z H5 => ∃ kvs k, y = kV k ∧ H5 D = some (.dK kvs) ∧ kvs.length < sizeLine ∧ Pv (i + 1) (upd H5 D (.dK (putK kvs k z))) else Pv (i + 1) H3) (hd : ∀ H, Pv n H → Qd H) :
    ∃ W : Nat → Nat → Hp → Prop, (∃ m, W 0 m (upd H1 D (.dK []))) ∧ ∀ i m H, W i m H →
      (J.stop i H ∧ Qd H) ∨ (J.go i H ∧ ∃ Nx : Hp → Prop, (∀ H', Nx H' → ∃ m', m' < m ∧ W (i + 1) m' H') ∧ ∀ x H', J.yld i H x H' → g x (wipe σ vs) H' fun σ2 H2 => wipe σ2 vs = wipe σ vs ∧ tt σ2 H2 fun b H3 =>
        if b = true then tk σ2 H3 fun y H4 => tv σ2 H4 fun z H5 => ∃ kvs k, y = kV k ∧ H5 D = some (.dK kvs) ∧ kvs.length < sizeLine ∧ Nx (upd H5 D (.dK (putK kvs k z))) else Nx H3) := by
  refine ⟨fun i m H => m = n - i ∧ i ≤ n ∧ Pv i H, ⟨n, by simp, Nat.zero_le _, h0⟩, ?_⟩
  rintro i m H ⟨rfl, hi, p⟩
  have q := hG i H hi p
  by_cases hlt : i < n
  · refine .inr ⟨w.goes i H hlt q, Pv (i + 1), fun H' p' => ⟨n - (i + 1), by omega, rfl, hlt, p'⟩, fun x H' y => hs i x H H' hlt p (w.yields i H x H' hlt q y)⟩
  · have e : i = n := by omega
    subst e
    exact .inl ⟨w.stops H q, hd H p⟩
/-- the numbers of the nodes of a list, as a dict -/
def numK (us : List Nat) : List (L2.Key × V) := us.zipIdx.map fun p => (Sum.inl (p.1 : Int), VN p.2)
theorem numK_len (us : List Nat) : (numK us).length = us.length := by unfold numK; rw [List.length_map, List.length_zipIdx]
theorem numK_snoc (us : List Nat) (u : Nat) : numK (us ++ [u]) = numK us ++ [(Sum.inl (u : Int), VN us.length)] := by
  unfold numK
  rw [List.zipIdx_append, List.map_append]
  simp
theorem numK_put {us : List Nat} {u : Nat} (h : u ∉ us) : putK (numK us) (Sum.inl (u : Int)) (VN us.length) = numK (us ++ [u]) := by
  rw [numK_snoc]
  unfold putK
  rw [if_neg ?_]
  intro z
  rw [List.any_eq_true] at z
  obtain ⟨kv, hm, e⟩ := z
  have e := of_decide_eq_true e
  unfold numK at hm
  obtain ⟨p, hp, rfl⟩ := List.mem_map.mp hm
  have e2 : (p.1 : Int) = (u : Int) := Sum.inl.inj e
  have := List.mem_zipIdx' hp
  exact h (by have h3 : p.1 = u := by omega
              rw [← h3]
              exact this.2 ▸ List.getElem_mem _)
theorem numK_valF (z : Int) : ∀ (us : List Nat) (k : Nat), ((us.zipIdx k).map fun p => ((Sum.inl (p.1 : Int) : L2.Key), VN p.2)).find? (fun kv => decide (kv.1 = (Sum.inl z : L2.Key))) = if (z.toNat ∈ us ∧ 0 ≤ z) then some (Sum.inl z, VN (us.idxOf z.toNat + k)) else none
  | [], k => by simp
  | u :: us, k => by
    rw [List.zipIdx_cons, List.map_cons, List.find?_cons]
    by_cases e : (u : Int) = z
    · have hz : z.toNat = u := by omega
      rw [decide_eq_true (by show (Sum.inl (u : Int) : L2.Key) = Sum.inl z; rw [e]), if_pos ⟨by rw [hz]; exact List.mem_cons_self, by omega⟩, hz, List.idxOf_cons_self, Nat.zero_add]
      show some ((Sum.inl (u : Int) : L2.Key), VN k) = _
      rw [e]
    · rw [decide_eq_false (by intro h; exact e (Sum.inl.inj h)), numK_valF z us (k + 1)]
      by_cases h0 : 0 ≤ z
      · have hne : u ≠ z.toNat := by omega
        have hiff : (z.toNat ∈ u :: us ∧ 0 ≤ z) ↔ (z.toNat ∈ us ∧ 0 ≤ z) := by simp [hne.symm]
        simp only [hiff]
        split
        · have e2 : (u :: us).idxOf z.toNat + k = us.idxOf z.toNat + (k + 1) := by
            rw [List.idxOf_cons, show (u == z.toNat) = false by simpa using hne]
            show us.idxOf z.toNat + 1 + k = _
            omega
          rw [e2]
        · rfl
      · rw [if_neg (fun q => h0 q.2), if_neg (fun q => h0 q.2)]
theorem numK_val (us : List Nat) (z : Int) : valV (numK us) (Sum.inl z : L2.Key) = if (z.toNat ∈ us ∧ 0 ≤ z) then some (VN (us.idxOf z.toNat)) else none := by
  unfold valV numK
  have := numK_valF z us 0
  rw [show us.zipIdx = us.zipIdx 0 from rfl, this]
  split <;> rfl
end Bx
/-! What `lives` says: a node lives exactly if an infinite path from it visits good nodes again and again. -/
namespace Lv
section
variable (mv : Nat → List Int) (goods : Nat → Bool) (n : Nat)
def hit (kept reach : Nat → Bool) (ts : List Int) : Bool := ts.any fun t => kept t.toNat && (goods t.toNat || reach t.toNat)
def stp (kept : Nat → Bool) (k : Nat) (p : (Nat → Bool) × Bool) : (Nat → Bool) × Bool :=
  if (kept k && !p.1 k && hit goods kept p.1 (mv k)) = true then (fun t => if t = k then true else p.1 t, true) else p
def pas (kept : Nat → Bool) : Nat → (Nat → Bool) × Bool → (Nat → Bool) × Bool
  | 0, p => p
  | j + 1, p => stp mv goods kept (n - 1 - j) (pas kept j p)
def inn (kept : Nat → Bool) : Nat → (Nat → Bool) → Nat → Bool
  | 0, r => r
  | f + 1, r => if (pas mv goods n kept n (r, false)).2 = true then inn kept f (pas mv goods n kept n (r, false)).1 else (pas mv goods n kept n (r, false)).1
def eqB (r k : Nat → Bool) : Bool := decide (∀ t, t < n → r t = k t)
def out : Nat → (Nat → Bool) → Nat → Bool
  | 0, k => k
  | f + 1, k => if eqB n (inn mv goods n k (n + 1) fun _ => false) k = true then k else out f (inn mv goods n k (n + 1) fun _ => false)
def lives (ss : List Int) : Bool := ss.any fun s => out mv goods n (n + 1) (fun _ => true) s.toNat
end

/-! counting -/
def cnt (f : Nat → Bool) : Nat → Nat
  | 0 => 0
  | n + 1 => cnt f n + (if f n = true then 1 else 0)
theorem cnt_le (f : Nat → Bool) : ∀ n, cnt f n ≤ n
  | 0 => Nat.le_refl 0
  | n + 1 => by
    have := cnt_le f n
    unfold cnt
    split <;> omega
theorem cnt_mono {f g : Nat → Bool} : ∀ n, (∀ t, t < n → f t = true → g t = true) → cnt f n ≤ cnt g n
  | 0, _ => Nat.le_refl 0
  | n + 1, h => by
    have := cnt_mono n fun t ht => h t (by omega)
    unfold cnt
    by_cases a : f n = true
    · rw [if_pos a, if_pos (h n (by omega) a)]
      omega
    · rw [if_neg a]
      omega
theorem cnt_lt {f g : Nat → Bool} : ∀ n, (∀ t, t < n → f t = true → g t = true) → (∃ t, t < n ∧ g t = true ∧ f t = false) → cnt f n < cnt g n
  | 0, _, ⟨t, ht, _⟩ => absurd ht (Nat.not_lt_zero t)
  | n + 1, h, ⟨t, ht, gt, ft⟩ => by
    unfold cnt
    rcases Nat.lt_or_ge t n with y | y
    · have := cnt_lt n (fun t ht => h t (by omega)) ⟨t, y, gt, ft⟩
      by_cases a : f n = true
      · rw [if_pos a, if_pos (h n (by omega) a)]
        omega
      · rw [if_neg a]
        omega
    · have e : t = n := by omega
      subst e
      have := cnt_mono t fun s hs => h s (by omega)
      rw [gt, ft, if_pos rfl, if_neg (by decide)]
      omega
theorem cnt_all (n : Nat) : cnt (fun _ => true) n = n := by
  induction n with
  | zero => rfl
  | succ n ih =>
    unfold cnt
    rw [ih, if_pos rfl]
section
variable {mv : Nat → List Int} {goods : Nat → Bool} {n : Nat}
theorem hit_iff {kept reach : Nat → Bool} {ts : List Int} : hit goods kept reach ts = true ↔ ∃ t ∈ ts, kept t.toNat = true ∧ (goods t.toNat = true ∨ reach t.toNat = true) := by
  unfold hit
  rw [List.any_eq_true]
  constructor
  · rintro ⟨t, ht, h⟩
    rw [Bool.and_eq_true_iff, Bool.or_eq_true_iff] at h
    exact ⟨t, ht, h⟩
  · rintro ⟨t, ht, h⟩
    refine ⟨t, ht, ?_⟩
    rw [Bool.and_eq_true_iff, Bool.or_eq_true_iff]
    exact h
/-- the condition under which a step fires -/
def Fire (mv : Nat → List Int) (goods kept reach : Nat → Bool) (k : Nat) : Prop := kept k = true ∧ reach k = false ∧ hit goods kept reach (mv k) = true
theorem stp_cases (kept : Nat → Bool) (k : Nat) (p : (Nat → Bool) × Bool) : (Fire mv goods kept p.1 k ∧ stp mv goods kept k p = (fun t => if t = k then true else p.1 t, true)) ∨ (¬ Fire mv goods kept p.1 k ∧ stp mv goods kept k p = p) := by
  unfold stp Fire
  by_cases c : (kept k && !p.1 k && hit goods kept p.1 (mv k)) = true
  · left
    rw [if_pos c]
    simp only [Bool.and_eq_true, Bool.not_eq_true'] at c
    exact ⟨⟨c.1.1, c.1.2, c.2⟩, rfl⟩
  · right
    rw [if_neg c]
    refine ⟨fun ⟨a, b, d⟩ => c ?_, rfl⟩
    rw [a, b, d]
    rfl
theorem pas_mono (kept : Nat → Bool) (p : (Nat → Bool) × Bool) : ∀ j t, p.1 t = true → (pas mv goods n kept j p).1 t = true
  | 0, _, h => h
  | j + 1, t, h => by
    have ih := pas_mono kept p j t h
    unfold pas
    rcases stp_cases (mv := mv) (goods := goods) kept (n - 1 - j) (pas mv goods n kept j p) with ⟨_, e⟩ | ⟨_, e⟩
    · rw [e]
      show (if t = n - 1 - j then true else _) = true
      split
      · rfl
      · exact ih
    · rw [e]
      exact ih
theorem pas_quiet (kept : Nat → Bool) (p : (Nat → Bool) × Bool) : ∀ j, (pas mv goods n kept j p).2 = false → pas mv goods n kept j p = p ∧ ∀ i, i < j → ¬ Fire mv goods kept p.1 (n - 1 - i)
  | 0, _ => ⟨rfl, fun i h => absurd h (Nat.not_lt_zero i)⟩
  | j + 1, h => by
    unfold pas at h ⊢
    rcases stp_cases (mv := mv) (goods := goods) kept (n - 1 - j) (pas mv goods n kept j p) with ⟨_, e⟩ | ⟨nf, e⟩
    · rw [e] at h
      cases h
    · rw [e] at h ⊢
      obtain ⟨h1, h2⟩ := pas_quiet kept p j h
      refine ⟨h1, fun i hi => ?_⟩
      rcases Nat.lt_or_ge i j with y | y
      · exact h2 i y
      · have : i = j := by omega
        rw [this, ← h1]
        exact nf
theorem pas_grow (kept r : Nat → Bool) : ∀ j, j ≤ n → (pas mv goods n kept j (r, false)).2 = true → ∃ t, t < n ∧ (pas mv goods n kept j (r, false)).1 t = true ∧ r t = false
  | 0, _, h => by cases h
  | j + 1, hj, h => by
    unfold pas at h ⊢
    rcases stp_cases (mv := mv) (goods := goods) kept (n - 1 - j) (pas mv goods n kept j (r, false)) with ⟨f, e⟩ | ⟨nf, e⟩
    · rw [e]
      refine ⟨n - 1 - j, by omega, if_pos rfl, ?_⟩
      cases hr : r (n - 1 - j) with
      | false => rfl
      | true =>
        have := pas_mono (mv := mv) (goods := goods) (n := n) kept (r, false) j (n - 1 - j) hr
        rw [f.2.1] at this
        cases this
    · rw [e] at h ⊢
      exact pas_grow kept r j (by omega) h
/-- from k a good kept node can be reached through kept nodes, in m + 1 steps -/
def Rch (mv : Nat → List Int) (goods kept : Nat → Bool) : Nat → Nat → Prop
  | 0, k => ∃ t ∈ mv k, kept t.toNat = true ∧ goods t.toNat = true
  | m + 1, k => ∃ t ∈ mv k, kept t.toNat = true ∧ Rch mv goods kept m t.toNat
def Snd (mv : Nat → List Int) (goods kept : Nat → Bool) (r : Nat → Bool) : Prop := ∀ t, r t = true → kept t = true ∧ ∃ m, Rch mv goods kept m t
theorem stp_snd {kept : Nat → Bool} {k : Nat} {p : (Nat → Bool) × Bool} (h : Snd mv goods kept p.1) : Snd mv goods kept (stp mv goods kept k p).1 := by
  rcases stp_cases (mv := mv) (goods := goods) kept k p with ⟨f, e⟩ | ⟨_, e⟩
  · rw [e]
    intro t ht
    have ht : (if t = k then true else p.1 t) = true := ht
    by_cases y : t = k
    · subst y
      refine ⟨f.1, ?_⟩
      obtain ⟨t', h1, h2, h3⟩ := hit_iff.mp f.2.2
      rcases h3 with g | g
      · exact ⟨0, t', h1, h2, g⟩
      · obtain ⟨_, m, hm⟩ := h _ g
        exact ⟨m + 1, t', h1, h2, hm⟩
    · rw [if_neg y] at ht
      exact h t ht
  · rw [e]
    exact h
theorem pas_snd {kept : Nat → Bool} {p : (Nat → Bool) × Bool} (h : Snd mv goods kept p.1) : ∀ j, Snd mv goods kept (pas mv goods n kept j p).1
  | 0 => h
  | j + 1 => stp_snd (pas_snd h j)
def Clo (mv : Nat → List Int) (goods kept : Nat → Bool) (n : Nat) (r : Nat → Bool) : Prop := ∀ k, k < n → kept k = true → hit goods kept r (mv k) = true → r k = true
theorem inn_snd {kept : Nat → Bool} : ∀ f r, Snd mv goods kept r → Snd mv goods kept (inn mv goods n kept f r)
  | 0, r, h => h
  | f + 1, r, h => by
    unfold inn
    have h1 := pas_snd (n := n) (p := (r, false)) h n
    split
    · exact inn_snd f _ h1
    · exact h1
theorem inn_clo {kept : Nat → Bool} : ∀ f r, n < cnt r n + f → Clo mv goods kept n (inn mv goods n kept f r)
  | 0, r, h => by have := cnt_le r n; omega
  | f + 1, r, h => by
    unfold inn
    split
    · rename_i c
      refine inn_clo f _ ?_
      have := cnt_lt n (f := r) (g := (pas mv goods n kept n (r, false)).1) (fun t _ ht => pas_mono kept (r, false) n t ht) (pas_grow kept r n (Nat.le_refl n) c)
      omega
    · rename_i c
      obtain ⟨h1, h2⟩ := pas_quiet (mv := mv) (goods := goods) (n := n) kept (r, false) n (Bool.eq_false_iff.mpr c)
      rw [h1]
      intro k hk hkk hh
      cases hr : r k with
      | true => exact hr
      | false =>
        have := h2 (n - 1 - k) (by omega)
        rw [show n - 1 - (n - 1 - k) = k by omega] at this
        exact absurd ⟨hkk, hr, hh⟩ this
theorem out_fix : ∀ f k, cnt k n < f → ∀ t, t < n → inn mv goods n (out mv goods n f k) (n + 1) (fun _ => false) t = out mv goods n f k t
  | 0, k, h => absurd h (Nat.not_lt_zero _)
  | f + 1, k, h => by
    unfold out
    split
    · rename_i c
      intro t ht
      exact of_decide_eq_true c t ht
    · rename_i c
      refine out_fix f _ ?_
      have hs := inn_snd (mv := mv) (goods := goods) (n := n) (kept := k) (n + 1) (fun _ => false) (fun t ht => by cases ht)
      have := cnt_lt n (f := inn mv goods n k (n + 1) fun _ => false) (g := k) (fun t _ ht => (hs t ht).1) ?_
      · omega
      · refine Classical.byContradiction fun hno => c (decide_eq_true fun t ht => ?_)
        cases ha : inn mv goods n k (n + 1) (fun _ => false) t with
        | true => exact (hs t ha).1.symm
        | false =>
          cases hb : k t with
          | false => rfl
          | true => exact absurd ⟨t, ht, hb, ha⟩ hno
/-- an infinite path that visits good nodes again and again -/
def Path (mv : Nat → List Int) (goods : Nat → Bool) (s : Nat) : Prop := ∃ π : Nat → Nat, π 0 = s ∧ (∀ i, ((π (i + 1) : Nat) : Int) ∈ mv (π i)) ∧ ∀ i, ∃ j, i < j ∧ goods (π j) = true
/-- all targets are nodes -/
def Bnd (mv : Nat → List Int) (n : Nat) : Prop := ∀ k, k < n → ∀ t ∈ mv k, 0 ≤ t ∧ t < (n : Int)
theorem path_of {K : Nat → Bool} (hb : Bnd mv n) (hK : ∀ k, k < n → K k = true → ∃ m, Rch mv goods K m k) {s : Nat} (hs : s < n) (ks : K s = true) : Path mv goods s := by
  have next : ∀ p : {p : Nat × Nat // p.1 < n ∧ K p.1 = true ∧ Rch mv goods K p.2 p.1}, ∃ q : {p : Nat × Nat // p.1 < n ∧ K p.1 = true ∧ Rch mv goods K p.2 p.1}, ((q.1.1 : Nat) : Int) ∈ mv p.1.1 ∧ (p.1.2 = 0 → goods q.1.1 = true) ∧ ∀ m, p.1.2 = m + 1 → q.1.2 = m := by
    rintro ⟨⟨k, m⟩, hk, hkk, hr⟩
    cases m with
    | zero =>
      obtain ⟨t, ht, kt, gt⟩ := hr
      obtain ⟨t0, t1⟩ := hb k hk t ht
      obtain ⟨m', hm'⟩ := hK t.toNat (by omega) kt
      refine ⟨⟨⟨t.toNat, m'⟩, by show t.toNat < n; omega, kt, hm'⟩, ?_, fun _ => gt, fun m h => by cases h⟩
      show ((t.toNat : Nat) : Int) ∈ mv k
      rw [show ((t.toNat : Nat) : Int) = t by omega]
      exact ht
    | succ m =>
      obtain ⟨t, ht, kt, rt⟩ := hr
      obtain ⟨t0, t1⟩ := hb k hk t ht
      refine ⟨⟨⟨t.toNat, m⟩, by show t.toNat < n; omega, kt, rt⟩, ?_, (fun h => by cases h), fun m' h => (Nat.succ.inj h : m = m')⟩
      show ((t.toNat : Nat) : Int) ∈ mv k
      rw [show ((t.toNat : Nat) : Int) = t by omega]
      exact ht
  obtain ⟨m, hm⟩ := hK s hs ks
  let σ : Nat → {p : Nat × Nat // p.1 < n ∧ K p.1 = true ∧ Rch mv goods K p.2 p.1} := fun i => Nat.rec ⟨⟨s, m⟩, hs, ks, hm⟩ (fun _ p => Classical.choose (next p)) i
  have hσ : ∀ i, ((((σ (i + 1)).1.1 : Nat) : Int) ∈ mv (σ i).1.1) ∧ ((σ i).1.2 = 0 → goods (σ (i + 1)).1.1 = true) ∧ ∀ m, (σ i).1.2 = m + 1 → (σ (i + 1)).1.2 = m := fun i => Classical.choose_spec (next (σ i))
  refine ⟨fun i => (σ i).1.1, rfl, fun i => (hσ i).1, fun i => ?_⟩
  have key : ∀ m i, (σ i).1.2 = m → ∃ j, i < j ∧ goods (σ j).1.1 = true := by
    intro m
    induction m with
    | zero => exact fun i h => ⟨i + 1, by omega, (hσ i).2.1 h⟩
    | succ m ih =>
      intro i h
      obtain ⟨j, hj, hg⟩ := ih (i + 1) ((hσ i).2.2 m h)
      exact ⟨j, by omega, hg⟩
  exact key _ i rfl
theorem path_lt (hb : Bnd mv n) {π : Nat → Nat} (h0 : π 0 < n) (hπ : ∀ i, ((π (i + 1) : Nat) : Int) ∈ mv (π i)) : ∀ i, π i < n
  | 0 => h0
  | i + 1 => by
    have := hb (π i) (path_lt hb h0 hπ i) _ (hπ i)
    omega
theorem out_path (hb : Bnd mv n) {π : Nat → Nat} (h0 : π 0 < n) (hπ : ∀ i, ((π (i + 1) : Nat) : Int) ∈ mv (π i)) (hg : ∀ i, ∃ j, i < j ∧ goods (π j) = true) : ∀ f k, (∀ i, k (π i) = true) → ∀ i, out mv goods n f k (π i) = true
  | 0, k, h => h
  | f + 1, k, h => by
    unfold out
    split
    · exact h
    · refine out_path hb h0 hπ hg f _ fun i => ?_
      have hc := inn_clo (mv := mv) (goods := goods) (n := n) (kept := k) (n + 1) (fun _ => false) (by omega)
      have hlt := path_lt hb h0 hπ
      have key : ∀ d i, goods (π (i + d + 1)) = true → inn mv goods n k (n + 1) (fun _ => false) (π i) = true := by
        intro d
        induction d with
        | zero =>
          intro i hgi
          refine hc (π i) (hlt i) (h i) (hit_iff.mpr ⟨_, hπ i, ?_, .inl ?_⟩)
          · rw [Int.toNat_natCast]; exact h _
          · rw [Int.toNat_natCast]; exact hgi
        | succ d ih =>
          intro i hgi
          refine hc (π i) (hlt i) (h i) (hit_iff.mpr ⟨_, hπ i, ?_, .inr ?_⟩)
          · rw [Int.toNat_natCast]; exact h _
          · rw [Int.toNat_natCast]
            exact ih (i + 1) (by rw [show i + 1 + d + 1 = i + (d + 1) + 1 by omega]; exact hgi)
      obtain ⟨j, hj, hgj⟩ := hg i
      exact key (j - i - 1) i (by rw [show i + (j - i - 1) + 1 = j by omega]; exact hgj)
/-- `lives` is true exactly if an infinite path from one of the starts visits good nodes again and again -/
theorem lives_iff (hb : Bnd mv n) {ss : List Int} (hs : ∀ s ∈ ss, 0 ≤ s ∧ s < (n : Int)) : lives mv goods n ss = true ↔ ∃ s ∈ ss, Path mv goods s.toNat := by
  unfold lives
  rw [List.any_eq_true]
  constructor
  · rintro ⟨s, h1, h2⟩
    have hr := hs s h1
    have hf := out_fix (mv := mv) (goods := goods) (n := n) (n + 1) (fun _ => true) (by rw [cnt_all]; omega)
    refine ⟨s, h1, path_of (K := out mv goods n (n + 1) fun _ => true) hb (fun k hk hkk => ?_) (by omega) h2⟩
    rw [← hf k hk] at hkk
    exact (inn_snd (mv := mv) (goods := goods) (n := n) (n + 1) (fun _ => false) (fun t ht => by cases ht) k hkk).2
  · rintro ⟨s, h1, π, p0, p1, p2⟩
    have hr := hs s h1
    refine ⟨s, h1, ?_⟩
    have := out_path hb (π := π) (by rw [p0]; omega) p1 p2 (n + 1) (fun _ => true) (fun _ => rfl) 0
    rw [p0] at this
    exact this
end
end Lv
namespace Lv
open Gr
theorem nd_le {l : List Nat} {n : Nat} (nd : l.Nodup) (lt : ∀ x ∈ l, x < n) : l.length ≤ n := by
  have h := wsum_le (fun _ => 1) n nd lt
  have h1 : ∀ l : List Nat, wsum (fun _ => 1) l = l.length := by
    intro l
    induction l with
    | nil => rfl
    | cons x l ih => rw [wsum_cons, ih, List.length_cons]; omega
  have h2 : ∀ n, below (fun _ => 1) n = n := by
    intro n
    induction n with
    | zero => rfl
    | succ n ih => show below _ n + 1 = _; rw [ih]
  rw [h1, h2] at h
  exact h
theorem pigeon {n : Nat} {f : Nat → Nat} (h : ∀ k, k ≤ n → f k < n) : ∃ i j, i < j ∧ j ≤ n ∧ f i = f j := by
  refine Classical.byContradiction fun hno => ?_
  have nd : ((List.range (n + 1)).map f).Nodup := by
    rw [List.nodup_iff_pairwise_ne, List.pairwise_map]
    refine List.Pairwise.imp_of_mem (R := (· < ·)) (fun {a b} ha hb hab e => hno ⟨a, b, hab, ?_, e⟩) List.pairwise_lt_range
    have := List.mem_range.mp hb
    omega
  have := nd_le nd fun x hx => by
    obtain ⟨k, hk, rfl⟩ := List.mem_map.mp hx
    exact h k (by have := List.mem_range.mp hk; omega)
  rw [List.length_map, List.length_range] at this
  omega
theorem rc_path {g : G} {π : Nat → Nat} (hπ : ∀ i, E g (π i) (π (i + 1))) (i : Nat) : ∀ d, Rc g (π i) (π (i + d))
  | 0 => .refl _
  | d + 1 => (rc_path hπ i d).snoc (hπ (i + d))
theorem path_cyc {g : G} {goods : Nat → Bool} {n : Nat} {π : Nat → Nat} (hlt : ∀ i, π i < n) (hπ : ∀ i, E g (π i) (π (i + 1))) (hg : ∀ i, ∃ j, i < j ∧ goods (π j) = true) : ∃ a, goods a = true ∧ Rc g (π 0) a ∧ Cyc g a := by
  let t : Nat → Nat := fun k => Nat.rec (Classical.choose (hg 0)) (fun _ p => Classical.choose (hg p)) k
  have ht : ∀ k, t k < t (k + 1) ∧ goods (π (t (k + 1))) = true := fun k => Classical.choose_spec (hg (t k))
  have hmono : ∀ i d, t i < t (i + d + 1) := by
    intro i d
    induction d with
    | zero => exact (ht i).1
    | succ d ih => exact Nat.lt_trans ih (ht (i + d + 1)).1
  obtain ⟨i, j, hij, _, e⟩ := pigeon (n := n) (f := fun k => π (t (k + 1))) fun k _ => hlt _
  have h1 : t (i + 1) < t (j + 1) := by
    have := hmono (i + 1) (j - i - 1)
    rwa [show i + 1 + (j - i - 1) + 1 = j + 1 by omega] at this
  refine ⟨π (t (i + 1)), (ht i).2, ?_, π (t (i + 1) + 1), hπ _, ?_⟩
  · have := rc_path hπ 0 (t (i + 1))
    rwa [Nat.zero_add] at this
  · have h2 := rc_path hπ (t (i + 1) + 1) (t (j + 1) - (t (i + 1) + 1))
    rw [show t (i + 1) + 1 + (t (j + 1) - (t (i + 1) + 1)) = t (j + 1) by omega] at h2
    have e : π (t (i + 1)) = π (t (j + 1)) := e
    rw [e]
    rw [← e] at h2 ⊢
    exact h2
theorem cyc_path {g : G} {mv : Nat → List Int} {goods : Nat → Bool} {n : Nat} (hE : ∀ u v, u < n → (E g u v ↔ (v : Int) ∈ mv u)) (hb : Bnd mv n) {s a : Nat} (hs : s < n) (ha : goods a = true) (r : Rc g s a) (hc : Cyc g a) : Path mv goods s := by
  have ok : ∀ u v, u < n → E g u v → v < n := fun u v hu e => by
    have := hb u hu _ ((hE u v hu).mp e)
    omega
  have step : ∀ v b, Rc g v b → b = a → ∀ u, u < n → E g u v → ∃ m, Rch mv goods (fun u => @decide (Rc g u a) (Classical.propDecidable _)) m u := by
    intro v b r
    induction r with
    | refl v =>
      rintro rfl u hu e
      refine ⟨0, (v : Int), (hE u v hu).mp e, ?_, ?_⟩
      · rw [Int.toNat_natCast]; exact @decide_eq_true _ (Classical.propDecidable _) (Rc.refl v)
      · rw [Int.toNat_natCast]; exact ha
    | @step v w b e2 r5 ih =>
      rintro rfl u hu e
      obtain ⟨m, hm⟩ := ih rfl v (ok u v hu e) e2
      refine ⟨m + 1, (v : Int), (hE u v hu).mp e, ?_, ?_⟩
      · rw [Int.toNat_natCast]; exact @decide_eq_true _ (Classical.propDecidable _) (Rc.step e2 r5)
      · rw [Int.toNat_natCast]; exact hm
  refine path_of (K := fun u => @decide (Rc g u a) (Classical.propDecidable _)) hb (fun k hk hkk => ?_) hs (@decide_eq_true _ (Classical.propDecidable _) r)
  have rk := @of_decide_eq_true _ (Classical.propDecidable _) hkk
  rcases rk.cases_step with rfl | ⟨w, e, r2⟩
  · obtain ⟨v, e, r2⟩ := hc
    exact step v _ r2 rfl _ hk e
  · exact step w _ r2 rfl _ hk e
theorem lives_cyc {g : G} {mv : Nat → List Int} {goods : Nat → Bool} {n : Nat} (hE : ∀ u v, u < n → (E g u v ↔ (v : Int) ∈ mv u)) (hb : Bnd mv n) {ss : List Int} (hs : ∀ s ∈ ss, 0 ≤ s ∧ s < (n : Int)) : lives mv goods n ss = true ↔ ∃ s ∈ ss, ∃ a, goods a = true ∧ Rc g s.toNat a ∧ Cyc g a := by
  rw [lives_iff hb hs]
  constructor
  · rintro ⟨s, h1, π, p0, p1, p2⟩
    have hr := hs s h1
    have hlt := path_lt hb (π := π) (by rw [p0]; omega) p1
    obtain ⟨a, h2, h3, h4⟩ := path_cyc (g := g) hlt (fun i => (hE _ _ (hlt i)).mpr (p1 i)) p2
    rw [p0] at h3
    exact ⟨s, h1, a, h2, h3, h4⟩
  · rintro ⟨s, h1, a, h2, h3, h4⟩
    have hr := hs s h1
    exact ⟨s, h1, cyc_path hE hb (by omega) h2 h3 h4⟩
end Lv
/-! own rule: enumerate of a tuple -/
namespace Bx
open PySem PySem.Spec PyProof.Rows L2
open AutoSeq1 (wpAny_loadPart')
theorem meets_enumerate_newT (l : Addr) (items : Array Value) (n : Nat) (dct : Option Addr) (sl : Array (Option Value)) :
    Meets (Builtin.«enumerate.__new__» ⟨[.type "enumerate", .ref l], []⟩) (fun _ R s => s.heap.get? l = some { cls := .type "tuple", dict := dct, data := .seq items n, slots := sl } ∧
      R (.ok (.ret (.ref (s.heap.push { cls := .type "tuple_iterator", data := .fields #[.ref l, .int 0 0] }).objs.size)))
        { s with heap := (s.heap.push { cls := .type "tuple_iterator", data := .fields #[.ref l, .int 0 0] }).push { cls := .type "enumerate", data := .fields #[.none, .bool false, .ref s.heap.objs.size, rawInt 0, .none, .none] } }) :=
  .of_wp fun prog w A R s h => by
    obtain ⟨hp, g, d, tk, os⟩ := s; obtain ⟨hl, h⟩ := h
    have hsub := sub_enumerate
    have hL : Heap.IsTuple (Shared.heap ⟨hp, g, d, tk, os⟩) l items := ⟨_, hl, rfl, n, rfl⟩
    wp_walk using wpAny_loadPart' hl
    refine wpAny_stack_any fun st => wpAny_pure ?_
    split
    · rename_i c _ _ _ _ _
      cases (c == Value.type "enumerate")
      · wp_walk using wpAny_loadPart' hl, wpAny_pyIter_tuple hL
        exact ⟨_, rfl, h⟩
      · wp_walk using wpAny_loadPart' hl, wpAny_pyIter_tuple hL
        exact ⟨_, rfl, h⟩
    · wp_walk using wpAny_loadPart' hl, wpAny_pyIter_tuple hL
      exact ⟨_, rfl, h⟩
theorem call_enumerate_tuple {prog : Program} {w : World} {A : Around} {E : Value → Shared → Prop} {s : Shared} {l : Addr} {items : Array Value} {Q : Value → Shared → Prop} (hL : s.heap.IsTuple l items)
    (h : ∀ h', IsEnum h' (s.heap.objs.size + 1) s.heap.objs.size 0 .none → h'.IsTupleIter s.heap.objs.size l 0 → h'.objs.size = s.heap.objs.size + 2 →
      (∀ b o, s.heap.get? b = some o → h'.get? b = some o) → Q (.ref (s.heap.objs.size + 1)) { s with heap := h' }) :
    wpAny (model prog w) A (call (.type "enumerate") [.ref l]) Q E s := by
  obtain ⟨⟨c, dct, dt, sl⟩, hl, hc, n, hd⟩ := hL
  replace hc : c = .type "tuple" := hc
  replace hd : dt = .seq items n := hd
  subst hc hd
  refine callType_new F.called_enumerate (by decide) (F.typeCall_enumerate_1 _) (F.newCall_enumerate_1 _) (fun obj => F.args_object_init_2 obj _) F.entry_enumerate_new
    (meets_enumerate_newT l items n dct sl) ⟨hl, ?_⟩
  have hz : (s.heap.push { cls := .type "tuple_iterator", data := .fields #[.ref l, .int 0 0] }).objs.size = s.heap.objs.size + 1 := Heap.size_push ..
  show _ ∧ _
  rw [hz]
  have he : IsEnum ((s.heap.push { cls := .type "tuple_iterator", data := .fields #[.ref l, .int 0 0] }).push
      { cls := .type "enumerate", data := .fields #[.none, .bool false, .ref s.heap.objs.size, rawInt 0, .none, .none] }) (s.heap.objs.size + 1) s.heap.objs.size 0 .none := by
    have := Heap.get?_push_size (s.heap.push { cls := .type "tuple_iterator", data := .fields #[.ref l, .int 0 0] })
      (o := { cls := .type "enumerate", data := .fields #[.none, .bool false, .ref s.heap.objs.size, rawInt 0, .none, .none] }) rfl
    rw [hz] at this; exact this
  refine ⟨⟨_, he, rfl⟩, h _ he ⟨_, Heap.get?_push_of_some _ (Heap.get?_push_size _ rfl), rfl, rfl⟩ (by rw [Heap.size_push, hz]) fun b o x => Heap.get?_push_of_some _ (Heap.get?_push_of_some _ x)⟩
/-- the tuple at a, each item in a new pair -/
def IteT (K : PySem.W.Frag) (a : Addr) : It :=
  ⟨fun i H => ∃ (xs : List V) (x : V), SqT K H a xs ∧ xs[i]? = some x, fun i H v H' => ∃ T x, v = .ref T ∧ H T = none ∧ H' = upd H T (.tup [.int (i : Nat), x]) ∧ ∀ xs, SqT K H a xs → xs[i]? = some x, fun i H => ∃ xs : List V, SqT K H a xs ∧ xs.length ≤ i⟩
theorem turn_enumT {P : Program} {w : World} {K : PySem.W.Frag} {elts : List Expr} {kk : Nat} {tpos : Pos} (a e it : Addr) :
    Turn P w K (.Tuple elts kk tpos) (IteT K a) [e, it] e (fun i h => (∃ old, IsEnum h e it ((i : Nat) : Int) old) ∧ h.IsTupleIter it a i ∧ e ≠ it) where
  mem := by simp
  obj := fun i h st b hb => by
    obtain ⟨⟨old, he⟩, ⟨o, ho, hc, hd⟩, _⟩ := st
    have e' : b = e ∨ b = it := by simpa using hb
    rcases e' with z | z
    · rw [z]; exact ⟨_, he, fun v q => nomatch q⟩
    · rw [z]; exact ⟨o, ho, fun v q => by rw [hd] at q; cases q⟩
  keep := fun i h h' st k => let ⟨⟨old, he⟩, hi, hne⟩ := st; ⟨⟨old, k e (by simp) _ he⟩, hi.at fun o q => k it (by simp) o q, hne⟩
  item := by
    intro X hP hw hK hc i pins s σ H E I hf st hg
    subst hP hw hK
    obtain ⟨⟨old, he⟩, hit, hne⟩ := st
    obtain ⟨xs, x, hq, hx⟩ := hg
    obtain ⟨its, rv, p, hz⟩ := I.tuple hq
    obtain ⟨u, hu, ru⟩ := rv.get hx
    have hel : e < s.heap.objs.size := Heap.lt_size he
    have hil : it < s.heap.objs.size := by obtain ⟨_, q, _⟩ := hit; exact Heap.lt_size q
    obtain ⟨oa, hoa, hca, na, hda⟩ := id p
    have hai : a ≠ it := fun z => by
      obtain ⟨o, ho, hc', hd'⟩ := hit
      rw [← z, hoa] at ho
      cases ho
      rw [hda] at hd'
      cases hd'
    have hae : e ≠ a := fun z => by
      have he' := he
      unfold IsEnum at he'
      rw [z, hoa] at he'
      cases he'
      cases hda
    have hii : i < its.toArray.size := by
      rcases Nat.lt_or_ge i its.toArray.size with y | y
      · exact y
      · rw [List.getElem?_eq_none (by simpa using y)] at hu
        cases hu
    have hh1 : X.A.in1.handled = none := by simp [I.ok.hd hc]
    refine wpAny_pyNext_enum_itemD (Draws.tuple (prog := X.prog) (w := X.w) hh1 it a hai its.toArray) he ⟨hit, p⟩ hii hne (by simp only [List.mem_cons, List.not_mem_nil, or_false, not_or]; exact ⟨hne, hae⟩) fun v h' tk hv ho hit' hT hsz hk => ?_
    have ev : v = u := by
      have : its[i]? = some v := by simpa using hv
      rw [hu] at this
      exact (Option.some.inj this).symm
    subst ev
    refine ⟨_, rfl, wpAny_letOwnedTupleGo_enum (s := { s with heap := h', toks := tk + 1 }) ho fun h'' he' sb => ?_⟩
    have hT2 : h''.get? s.heap.objs.size = some { cls := .type "tuple", data := .seq #[.int i tk, v] } := (sb.2 _ (Nat.ne_of_gt hel)).trans hT
    have new : ObjOk X.prog X.w (upd H s.heap.objs.size (.tup [.int (i : Nat), x])) h'' s.heap.objs.size (.tup [.int (i : Nat), x]) :=
      ⟨by show 2 ≤ sizeLine; decide, [.int i tk, v], .cons ⟨_, rfl⟩ (.cons ru .nil), ⟨_, hT2, rfl, _, rfl⟩⟩
    have I1 : Inv X pins σ (upd H s.heap.objs.size (.tup [.int (i : Nat), x])) { s with heap := h'', toks := tk + 1 } :=
      I.turnedNew (ch := [e, it]) (fun b ob hb q => (sb.2 b (fun z => hb (by simp [z]))).trans (hk b ob (fun z => hb (by simp [z])) (fun z => hb (by simp [z])) q)) hf (Nat.le_refl _) new
    refine ⟨.ref s.heap.objs.size, _, I1, rfl, ⟨_, x, rfl, I.hok.fresh (Nat.le_refl _), rfl, fun ys hy => by rw [I.tuple_inj hy hq]; exact hx⟩, ⟨⟨v, ?_⟩, hit'.1.at fun o q => (sb.2 it (Ne.symm hne)).trans q, hne⟩, fun b hb => ?_⟩
    · have e1 : ((i + 1 : Nat) : Int) = (i : Int) + 1 := by omega
      rw [e1]; exact he'
    · have hb' : b < s.heap.objs.size := by
        have e' : b = e ∨ b = it := by simpa using hb
        rcases e' with z | z
        · rw [z]; exact hel
        · rw [z]; exact hil
      rw [upd_ne (Nat.ne_of_lt hb')]
      exact (hf b hb).1
  done := by
    intro X hP hw hK hc i pins s σ H E I hf st hg
    subst hP hw hK
    obtain ⟨⟨old, he⟩, hit, hne⟩ := st
    obtain ⟨xs, hq, hx⟩ := hg
    obtain ⟨its, rv, p, hz⟩ := I.tuple hq
    obtain ⟨f0, f1, f2, f3, f4, f5⟩ := hf it (by simp)
    have hl := rv.length
    have hT : s.TypeIs (.ref e) "enumerate" := ⟨_, he, rfl⟩
    unfold pyNext
    refine wpAny_bind (wpAny_attempt (wpAny_callSpecial?_slot (name := Str.ofString "__next__") hT F.slot_enumerate_next
      (wpAny_call_entry F.slot_enumerate_next hT F.entry_enumerate_next ?_ (F.args_enumerate_next_1 _))))
    show wpAny _ _ (field (.ref e) 2 >>= _) _ _ _
    refine wpAny_bind (wpAny_field he rfl (x := .ref it) rfl ?_)
    refine wpAny_bind (wpAny_nextOf_tuple_end (I.ok.hd hc) hit p (by simp; omega) fun h' x he' hx' => ?_)
    obtain ⟨o, ho, hc⟩ := hx'
    refine wpAny_bind (wpAny_isInstance (T := "StopIteration") (b := true) ⟨o, ho, hc⟩ isSubtype_stop ?_)
    exact wpAny_pure ⟨rfl, I.turned (t' := s.toks) (fun b o hb q => he' b o hb q) f0 f1 f3 f4 f5⟩
  self := fun A i s Q E st h => let ⟨⟨_, he⟩, _⟩ := st; wpAny_pyIter_enum he h
def iEnumT (K : PySem.W.Frag) (ta : TA) : TI := fun σ H R => ta σ H fun vs H1 => ∃ a xs, vs = [.ref a] ∧ SqT K H1 a xs ∧ R (IteT K a) H1
theorem pi_enumT {X : Cx} {e : Expr} {ta : TA} {p pos tpos : Pos} {elts : List Expr} {kk : Nat} (hg : Gl X "enumerate") (hm : X.mg "enumerate" = none) (ha : PA X [e] ta) (hs : starEach [e] X.env = [(false, eval e X.env)] := by rfl) :
    PI X (.Tuple elts kk tpos) (.Call (.Name "enumerate" p) [e] [] pos) (iEnumT X.K ta) := by
  refine ⟨fun pins s σ H R I h => ?_⟩
  refine Call_ (ld_blt I hg hm boot_enumerate (PyProof.Rows.callWith_type1 (thn (ha.run pos pins s σ H _ I h) fun us s1 ⟨vs, H1, I1, r1, q1⟩ => ?_) hs rfl))
  obtain ⟨a, xs, ex, hq, q⟩ := q1
  subst ex
  cases r1 with
  | cons r rr =>
    cases rr
    cases r
    obtain ⟨its, rv, p', hz⟩ := I1.tuple hq
    refine call_enumerate_tuple p' fun h' he hit hsz hk => wpAny_pyIter_enum he ?_
    have I2 : Inv X pins σ H1 { s1 with heap := h' } := I1.kept (t' := s1.toks) hk
    refine ⟨s1.heap.objs.size + 1, [s1.heap.objs.size + 1, s1.heap.objs.size], _, _, H1, rfl, I2, turn_enumT a (s1.heap.objs.size + 1) s1.heap.objs.size, ⟨⟨.none, he⟩, hit, Nat.succ_ne_self _⟩, fun b hb => ?_, q⟩
    have e' : b = s1.heap.objs.size + 1 ∨ b = s1.heap.objs.size := by simpa using hb
    have hle : s1.heap.objs.size ≤ b := by
      rcases e' with z | z
      · rw [z]; exact Nat.le_add_right _ _
      · rw [z]; exact Nat.le_refl _
    exact I1.fpOk hle (I1.hok.fresh hle)
theorem walk_enumT {K : PySem.W.Frag} {a : Addr} {xs : List V} : Walk (IteT K a) xs.length (fun H => SqT K H a xs) (YPair (fun i => some (.int (i : Nat))) (fun i => xs[i]?)) := by
  refine ⟨fun i _ hi q => ⟨xs, xs[i], q, by simp [hi]⟩, fun _ q => ⟨xs, q, Nat.le_refl _⟩, fun i H v H' _ q y => ?_⟩
  obtain ⟨T, x, h1, h2, h3, h4⟩ := y
  exact ⟨T, .int (i : Nat), x, h1, h2, h3, rfl, h4 xs q⟩
end Bx
namespace Bx
open PySem PySem.Spec PyProof.Rows L2
theorem pi_enumTK {X : Cx} {K : PySem.W.Frag} (h : X.K = K) {e : Expr} {ta : TA} {p pos tpos : Pos} {elts : List Expr} {kk : Nat} (hg : Gl X "enumerate") (hm : X.mg "enumerate" = none) (ha : PA X [e] ta) (hs : starEach [e] X.env = [(false, eval e X.env)] := by rfl) :
    PI X (.Tuple elts kk tpos) (.Call (.Name "enumerate" p) [e] [] pos) (iEnumT K ta) := by
  subst h
  exact pi_enumT hg hm ha hs
/-- two clauses, the outer walk over anything -/
theorem lc2_it {J : It} {n : Nat} {G : Hp → Prop} {Y : Nat → Hp → V → Hp → Prop} (w : Walk J n G Y) {g g1 : TG} {tt tt1 : TT} {wi1 : TI} {te : TE} {vs vs1 : List Nat} {σ : L2.St} {H1 : Hp} {D : Addr} {Qd : Hp → Prop} (Pv : Nat → Hp → Prop) (h0 : Pv 0 (upd H1 D (.lst []))) (hG : ∀ i H, i ≤ n → Pv i H → G H)
    (hs : ∀ i x H H0, i < n → Pv i H → Y i H x H0 → g x (wipe σ vs) H0 fun σ2 H2 => wipe σ2 vs = wipe σ vs ∧ tt σ2 H2 fun b H3 => if b = true then wi1 σ2 H3 fun J1 H4 => ∃ W1 : Nat → Nat → Hp → Prop, (∃ m, W1 0 m H4) ∧ ∀ j k H, W1 j k H →
      (J1.stop j H ∧ Pv (i + 1) H) ∨ (J1.go j H ∧ ∃ Nx1 : Hp → Prop, (∀ H', Nx1 H' → ∃ k', k' < k ∧ W1 (j + 1) k' H') ∧ ∀ x H', J1.yld j H x H' → g1 x (wipe σ2 vs1) H' fun σ3 H5 => wipe σ3 vs1 = wipe σ2 vs1 ∧ tt1 σ3 H5 fun b H6 =>
        if b = true then te σ3 H6 fun y H7 => ∃ acc, H7 D = some (.lst acc) ∧ acc.length < sizeLine ∧ Nx1 (upd H7 D (.lst (acc ++ [y]))) else Nx1 H6) else Pv (i + 1) H3) (hd : ∀ H, Pv n H → Qd H) :
    ∃ W : Nat → Nat → Hp → Prop, (∃ m, W 0 m (upd H1 D (.lst []))) ∧ ∀ i m H, W i m H →
      (J.stop i H ∧ Qd H) ∨ (J.go i H ∧ ∃ Nx : Hp → Prop, (∀ H', Nx H' → ∃ m', m' < m ∧ W (i + 1) m' H') ∧ ∀ x H', J.yld i H x H' → g x (wipe σ vs) H' fun σ2 H2 => wipe σ2 vs = wipe σ vs ∧ tt σ2 H2 fun b H3 =>
        if b = true then wi1 σ2 H3 fun J1 H4 => ∃ W1 : Nat → Nat → Hp → Prop, (∃ m, W1 0 m H4) ∧ ∀ j k H, W1 j k H →
          (J1.stop j H ∧ Nx H) ∨ (J1.go j H ∧ ∃ Nx1 : Hp → Prop, (∀ H', Nx1 H' → ∃ k', k' < k ∧ W1 (j + 1) k' H') ∧ ∀ x H', J1.yld j H x H' → g1 x (wipe σ2 vs1) H' fun σ3 H5 => wipe σ3 vs1 = wipe σ2 vs1 ∧ tt1 σ3 H5 fun b H6 =>
            if b = true then te σ3 H6 fun y H7 => ∃ acc, H7 D = some (.lst acc) ∧ acc.length < sizeLine ∧ Nx1 (upd H7 D (.lst (acc ++ [y]))) else Nx1 H6) else Nx H3) := by
  refine ⟨fun i m H => m = n - i ∧ i ≤ n ∧ Pv i H, ⟨n, by simp, Nat.zero_le _, h0⟩, ?_⟩
  rintro i m H ⟨rfl, hi, p⟩
  have q := hG i H hi p
  rcases Nat.lt_or_ge i n with c | c
  · exact .inr ⟨w.goes i H c q, Pv (i + 1), fun H' p' => ⟨n - (i + 1), by omega, rfl, c, p'⟩, fun x H' y => hs i x H H' c p (w.yields i H x H' c q y)⟩
  · have e : i = n := Nat.le_antisymm hi c
    subst e
    exact .inl ⟨w.stops H q, hd H p⟩
/-- .. the inner walk over anything -/
theorem lc2_inIt {J : It} {n : Nat} {G : Hp → Prop} {Y : Nat → Hp → V → Hp → Prop} (w : Walk J n G Y) {g1 : TG} {tt1 : TT} {te : TE} {vs1 : List Nat} {σ2 : L2.St} {H4 : Hp} {D : Addr} {Nx : Hp → Prop} (Pv : Nat → Hp → Prop) (h0 : Pv 0 H4) (hG : ∀ i H, i ≤ n → Pv i H → G H)
    (hs : ∀ j x H H0, j < n → Pv j H → Y j H x H0 → g1 x (wipe σ2 vs1) H0 fun σ3 H5 => wipe σ3 vs1 = wipe σ2 vs1 ∧ tt1 σ3 H5 fun c H6 => if c = true then te σ3 H6 fun y H7 => ∃ acc, H7 D = some (.lst acc) ∧ acc.length < sizeLine ∧ Pv (j + 1) (upd H7 D (.lst (acc ++ [y]))) else Pv (j + 1) H6)
    (hd : ∀ H, Pv n H → Nx H) :
    ∃ W1 : Nat → Nat → Hp → Prop, (∃ m, W1 0 m H4) ∧ ∀ j k H, W1 j k H →
      (J.stop j H ∧ Nx H) ∨ (J.go j H ∧ ∃ Nx1 : Hp → Prop, (∀ H', Nx1 H' → ∃ k', k' < k ∧ W1 (j + 1) k' H') ∧ ∀ x H', J.yld j H x H' → g1 x (wipe σ2 vs1) H' fun σ3 H5 => wipe σ3 vs1 = wipe σ2 vs1 ∧ tt1 σ3 H5 fun c H6 =>
        if c = true then te σ3 H6 fun y H7 => ∃ acc, H7 D = some (.lst acc) ∧ acc.length < sizeLine ∧ Nx1 (upd H7 D (.lst (acc ++ [y]))) else Nx1 H6) := by
  refine ⟨fun j m H => m = n - j ∧ j ≤ n ∧ Pv j H, ⟨n, by simp, Nat.zero_le _, h0⟩, ?_⟩
  rintro j m H ⟨rfl, hj, p⟩
  have q := hG j H hj p
  rcases Nat.lt_or_ge j n with c | c
  · exact .inr ⟨w.goes j H c q, Pv (j + 1), fun H' p' => ⟨n - (j + 1), by omega, rfl, c, p'⟩, fun x H' y => hs j x H H' c p (w.yields j H x H' c q y)⟩
  · have e : j = n := Nat.le_antisymm hj c
    subst e
    exact .inl ⟨w.stops H q, hd H p⟩
end Bx
namespace Bx
open PySem PySem.Spec PyProof.Rows L2
theorem call_anyK {X : Cx} {K : PySem.W.Frag} (h : X.K = K) (hc : X.calm = true) : CallR X (.builtin "any") (rAny K) := by
  subst h
  exact cr_any hc
end Bx
/-! closures that are handed on: defs in a def with cells of their own, called where the maker's frame is out of sight -/
namespace Clo
open PySem PySem.Spec PyProof.Rows L2 LamX NdefX
/-! ### the frame of a closure -/
theorem cellsFrom_acc : ∀ (names : List (Str × NameKind)) (n : Nat) (acc : List (Str × Addr)), cellsFrom n names acc = cellsFrom n names [] ++ acc
  | [], _, _ => rfl
  | (x, k) :: r, n, acc => by
    unfold cellsFrom
    split
    · rw [cellsFrom_acc r (n + 1) ((x, n) :: acc), cellsFrom_acc r (n + 1) [(x, n)], List.append_assoc]
      rfl
    · exact cellsFrom_acc r n acc
theorem look_app {α : Type} {l m : List (Str × α)} {x : Str} : (l ++ m).lookup x = (l.lookup x).or (m.lookup x) := List.lookup_append
theorem forIn_same {f g : Str × Value → PUnit → Sem (ForInStep PUnit)} : ∀ (bs : List (Str × Value)), (∀ b ∈ bs, ∀ u, f b u = g b u) → (forIn bs PUnit.unit f : Sem PUnit) = forIn bs PUnit.unit g
  | [], _ => rfl
  | b :: bs, h => by
    rw [List.forIn_cons, List.forIn_cons, h b List.mem_cons_self]
    have ih := forIn_same bs fun c hc => h c (List.mem_cons_of_mem _ hc)
    congr 1
    funext r
    cases r with
    | done u => rfl
    | yield u => cases u; exact ih
/-- a store sees the cells by the name alone -/
theorem store_cells {env : Env} {cs : List (Str × Addr)} {n : Str} {v : Value} (h : env.cells.lookup n = cs.lookup n) : storeName env n v = storeName { env with cells := cs } n v := by
  have hc : PySem.cellOf env n = PySem.cellOf { env with cells := cs } n := by
    unfold PySem.cellOf
    rw [h]
  unfold storeName
  rw [hc]
  rfl
end Clo
namespace Clo
open PySem PySem.Spec PyProof.Rows L2 LamX NdefX
abbrev ownC (n : Nat) (scope : Scope) : List (Str × Addr) := cellsFrom (n + 1) scope.names []
theorem newEnv_clo {M : Model} {A : Around} {E : Value → Shared → Prop} {s : Shared} {scope : Scope} {globals : Addr} {closure : List (Str × Addr)} {binds : List (Str × Value)} {qual : Str} {func : Option Addr} {code : Value} {builtins : Addr} {Q : Env → Shared → Prop}
    (hk : scope.kind = .function) (hkind : ∀ x ∈ binds, scope.names.lookup x.1 = some .local ∨ scope.names.lookup x.1 = some .cell)
    (hcl : ∀ x ∈ binds, closure.lookup x.1 = none)
    (hQ : ∀ s', InCallC s s.heap.objs.size (bindL (fun y => scope.names.lookup y) binds fun _ => none) (ownC s.heap.objs.size scope) (bindC (fun y => scope.names.lookup y) binds fun _ => none) s' →
      Q (newEnv scope s.heap.objs.size globals (ownC s.heap.objs.size scope ++ closure) qual func code none builtins) s') :
    wpAny M A (newFunctionEnv scope globals closure binds qual func code none builtins) Q E s := by
  simp only [newFunctionEnv, Option.isSome_none, Bool.false_eq_true, if_false]
  refine wpAny_bind (wpAny_alloc ?_)
  refine wpAny_bind (wpAny_layCells _ (fun name kind cells => by cases hkc : kind == NameKind.cell <;> simp [hkc]) _ _ _ _ ?_)
  have ok := cellsFrom_ok scope.names (s.heap.push { cls := .type "frame", data := .dict #[] }) (s.heap.objs.size + 1) [] ⟨fun _ _ hm => (nomatch hm), List.Pairwise.nil⟩ (by rw [Heap.size_push]; exact Nat.le_refl _)
  rw [Heap.size_push] at ok
  rw [show ({ s with heap := s.heap.push { cls := .type "frame", data := .dict #[] } } : Shared).heap.objs.size = s.heap.objs.size + 1 from Heap.size_push .., cellsFrom_acc]
  have own : ∀ x ∈ binds, scope.names.lookup x.1 = some .local ∨ (scope.names.lookup x.1 = some .cell ∧ ((ownC s.heap.objs.size scope).lookup x.1).isSome = true) := fun x hx => (hkind x hx).imp id fun z => ⟨z, PySem.W.cellsFrom_some _ _ _ (.inl z)⟩
  rw [forIn_same (g := fun b u => do storeName { newEnv scope s.heap.objs.size globals (ownC s.heap.objs.size scope ++ closure) qual func code none builtins with cells := ownC s.heap.objs.size scope } b.1 b.2; pure (.yield ⟨⟩)) binds fun b hb u => ?_]
  · refine wpAny_bind (wpAny_bindParams (s₀ := s) (env := { newEnv scope s.heap.objs.size globals (ownC s.heap.objs.size scope ++ closure) qual func code none builtins with cells := ownC s.heap.objs.size scope })
      _ (fun _ _ _ => rfl) hk binds (fun _ => none) (fun _ => none) _ _
      ⟨⟨⟨_, _, rfl⟩, (Heap.Ns.new s.heap (.type "frame")).keeps (pushCells_keeps _ _), fun b o e => pushCells_keeps _ _ b o (Heap.get?_push_of_some _ e), Nat.le_refl _⟩,
        fun n c hc => (ok.empty n c (mem_of_lookup hc)).1, ok.apart, fun n c hm => (ok.empty n c hm).2⟩
      own fun s' x => wpAny_pure (hQ s' x))
  · have e : (newEnv scope s.heap.objs.size globals (ownC s.heap.objs.size scope ++ closure) qual func code none builtins).cells.lookup b.1 = (ownC s.heap.objs.size scope).lookup b.1 := by
      show (ownC s.heap.objs.size scope ++ closure).lookup b.1 = _
      rw [look_app, hcl b hb]
      cases (ownC s.heap.objs.size scope).lookup b.1 <;> rfl
    obtain ⟨n, v⟩ := b
    exact congrArg (fun z : Sem Unit => (do z; pure (ForInStep.yield PUnit.unit) : Sem (ForInStep PUnit))) (store_cells (v := v) e)
end Clo
namespace Clo
open PySem PySem.Spec PyProof.Rows L2 LamX NdefX
/-- the names of a closure: the parameters, then the captured ones, then its own; its own may be captured again -/
structure CScope (N ps fr : List Str) (sc : Scope) : Prop where
  kind : sc.kind = .function
  co : sc.isCoroutine = false
  gen : sc.isGenerator = false
  nd : N.Nodup
  pre : N.take (ps.length + fr.length) = ps ++ fr
  par : ∀ x ∈ ps, sc.names.lookup x = some .local ∨ sc.names.lookup x = some .cell
  free : ∀ y ∈ sc.names, y.2 = .free → y.1 ∈ fr
  frk : ∀ x ∈ fr, sc.names.lookup x = some .free
  uq : ∀ y ∈ sc.names, sc.names.lookup y.1 = some y.2
def cscB (N ps fr : List Str) (sc : Scope) : Bool :=
  decide (sc.kind = .function) && !sc.isCoroutine && !sc.isGenerator && decide N.Nodup && decide (N.take (ps.length + fr.length) = ps ++ fr) && ps.all (fun x => decide (sc.names.lookup x = some .local) || decide (sc.names.lookup x = some .cell)) && sc.names.all (fun y => !decide (y.2 = .free) || decide (y.1 ∈ fr)) && fr.all (fun x => decide (sc.names.lookup x = some .free)) && sc.names.all (fun y => decide (sc.names.lookup y.1 = some y.2))
theorem cscope_by {N ps fr : List Str} {sc : Scope} (h : cscB N ps fr sc = true) : CScope N ps fr sc := by
  unfold cscB at h
  simp only [Bool.and_eq_true, Bool.not_eq_true', decide_eq_true_eq, List.all_eq_true, Bool.or_eq_true, decide_eq_false_iff_not] at h
  obtain ⟨⟨⟨⟨⟨⟨⟨⟨h1, h2⟩, h3⟩, h4⟩, h5⟩, h6⟩, h8⟩, h9⟩, h10⟩ := h
  exact ⟨h1, h2, h3, h4, h5, h6, fun y hy e => (h8 y hy).elim (fun z => absurd e z) id, h9, h10⟩
abbrev envC (F : NF) (f L : Addr) : Env := PySem.W.envX F.qual F.scope L f (.ref F.c) (ownC L F.scope ++ F.cl)
def ncxC (CX : CXT) (P : Program) (w : World) (K : PySem.W.Frag) (mg : Str → Option Value) (base : Heap) (N : List Str) (F : NF) (f : Addr) (A : Around) (outer : List Env) (s : Shared) (H : Hp) (E : XK) : Cx where
  prog := P
  w := w
  K := K
  mg := mg
  base := base
  A := A.deeper (envC F f s.heap.objs.size)
  N := N
  s_0 := s
  H_0 := H
  env := envC F f s.heap.objs.size
  outer := outer
  stack := envC F f s.heap.objs.size :: outer
  ex := []
  calm := true
  fn := fun x => decide (F.scope.names.lookup x = some .cell)
  pn := []
  xe := fun e s' => wpAny (model P w) (A.deeper (envC F f s.heap.objs.size)) (leaving (envC F f s.heap.objs.size) e) (fun _ s'' => CX outer H s E e s'') (fun e' s'' => CX outer H s E e' s'') s'
section
variable {CX : CXT} {P : Program} {w : World} {K : PySem.W.Frag} {mg : Str → Option Value} {base : Heap} {N ps fr : List Str} {F : NF} {f : Addr} {A : Around} {outer : List Env} {s s1 : Shared} {H : Hp} {E : XK} {us : List Value} {vs : List V} {ws : List (Option V)}
theorem own_cell {sc : Scope} {n : Nat} {x : Str} {c : Addr} (h : (ownC n sc).lookup x = some c) : (x, NameKind.cell) ∈ sc.names := by
  have gen : ∀ (names : List (Str × NameKind)) (n : Nat) (acc : List (Str × Addr)), (x, c) ∈ cellsFrom n names acc → (x, c) ∈ acc ∨ (x, NameKind.cell) ∈ names := by
    intro names
    induction names with
    | nil => exact fun n acc h => .inl h
    | cons p r ih =>
      intro n acc h
      obtain ⟨y, k⟩ := p
      unfold cellsFrom at h
      split at h
      · rename_i hk
        rcases ih _ _ h with z | z
        · rcases List.mem_cons.mp z with e | z
          · have e1 : x = y := (Prod.mk.inj e).1
            have e2 : k = NameKind.cell := eq_of_beq hk
            exact .inr (by rw [e1, e2]; exact List.mem_cons_self)
          · exact .inl z
        · exact .inr (List.mem_cons_of_mem _ z)
      · rcases ih _ _ h with z | z
        · exact .inl z
        · exact .inr (List.mem_cons_of_mem _ z)
  rcases gen _ _ _ (PySem.mem_of_lookup h) with z | z
  · cases z
  · exact z
theorem inv_startC (S : CScope N ps fr F.scope) (hd : A.handled = none) (e0 : Env0 P w K mg base A outer s H) (hl : vs.length = ps.length) (r : Vals vs us) (C : CellsAt F.cl fr ws s.heap H) (hcl : ∀ y c, F.cl.lookup y = some c → F.scope.names.lookup y = some .free)
    (x : InCallC s s.heap.objs.size (bindL (fun y => F.scope.names.lookup y) (ps.zip us) fun _ => none) (ownC s.heap.objs.size F.scope) (bindC (fun y => F.scope.names.lookup y) (ps.zip us) fun _ => none) s1) :
    Inv (ncxC CX P w K mg base N F f A outer s H E) [] (startF N vs ws) H s1 := by
  have hpl : ps.length + fr.length ≤ N.length := by
    have q := congrArg List.length S.pre
    rw [List.length_take, List.length_append] at q
    omega
  obtain ⟨h1, tk, rfl, hk⟩ := x.done
  have noA : ∀ b : Addr, b ∉ (ncxC CX P w K mg base N F f A outer s H E).ex := fun b z => absurd (show b ∈ ([] : List Addr) from z) (by simp)
  have cellK : ∀ {c : Addr} {v : Option Value}, s.heap.IsCell c v → h1.IsCell c v := fun {c v} ⟨o, ho, hd⟩ => ⟨o, hk _ _ ho, hd⟩
  have cellLt : ∀ {c : Addr} {v : Option Value}, s.heap.IsCell c v → c < s.heap.objs.size := fun z => z.lt
  have look : ∀ y c, (ncxC CX P w K mg base N F f A outer s H E).env.cells.lookup y = some c → (ownC s.heap.objs.size F.scope).lookup y = some c ∨ ((ownC s.heap.objs.size F.scope).lookup y = none ∧ F.cl.lookup y = some c) := fun y c e => by
    have e : (ownC s.heap.objs.size F.scope ++ F.cl).lookup y = some c := e
    rw [look_app] at e
    cases q : (ownC s.heap.objs.size F.scope).lookup y with
    | none => rw [q] at e; exact .inr ⟨rfl, e⟩
    | some c' => rw [q] at e; exact .inl e
  have mk_own : ∀ y c, (ownC s.heap.objs.size F.scope).lookup y = some c → (ncxC CX P w K mg base N F f A outer s H E).env.cells.lookup y = some c := fun y c e => by
    show (ownC s.heap.objs.size F.scope ++ F.cl).lookup y = some c
    rw [look_app, e]; rfl
  have own_k : ∀ y c, (ownC s.heap.objs.size F.scope).lookup y = some c → F.scope.names.lookup y = some .cell := fun y c e => S.uq _ (own_cell e)
  have free_no : ∀ y, F.scope.names.lookup y = some .free → (ownC s.heap.objs.size F.scope).lookup y = none := fun y e => by
    cases q : (ownC s.heap.objs.size F.scope).lookup y with
    | none => rfl
    | some c =>
      rw [own_k y c q] at e
      cases e
  have mk_clo : ∀ y c, F.cl.lookup y = some c → (ncxC CX P w K mg base N F f A outer s H E).env.cells.lookup y = some c := fun y c e => by
    show (ownC s.heap.objs.size F.scope ++ F.cl).lookup y = some c
    rw [look_app, free_no y (hcl y c e)]
    exact e
  have above : ∀ y c, (ownC s.heap.objs.size F.scope).lookup y = some c → s.heap.objs.size < c := fun y c e => x.above y c (PySem.mem_of_lookup e)
  have below : ∀ y c, F.cl.lookup y = some c → c < s.heap.objs.size := fun y c e => by
    obtain ⟨v, z⟩ := (C.all y c e).2
    exact z.lt
  refine ⟨⟨e0.mod, S.kind, rfl, rfl, Nat.le_refl _, fun y z c h1 h2 => ?_, fun y hy => ?_, fun y c z h => ?_, fun _ => hd, Around.frames_deeper e0.frames, .inr ⟨rfl, rfl⟩, fun b z => absurd z (noA b), e0.bs, e0.bsz, fun b _ _ => noA b, fun b z => absurd z (noA b), e0.funs, e0.frf⟩,
    rfl, e0.bare, Un.kept hk, ⟨_, x.toInCall.ns, fun i y v e1 e2 e3 => ?_⟩, fun y c e => ?_, e0.hok.fresh (Nat.le_refl _), fun y c e => ?_, fun q hq => absurd (show q ∈ ([] : List (Addr × Obj)) ++ [] from hq) (by simp), e0.hok.kept hk, ?_⟩
  · rcases look y c h1 with e1 | ⟨_, e1⟩ <;> rcases look z c h2 with e2 | ⟨_, e2⟩
    · exact name_of_addr x.apart (PySem.mem_of_lookup e1) (PySem.mem_of_lookup e2)
    · exact absurd (Nat.lt_trans (above y c e1) (below z c e2)) (Nat.lt_irrefl _)
    · exact absurd (Nat.lt_trans (above z c e2) (below y c e1)) (Nat.lt_irrefl _)
    · exact C.inj y z c e1 e2
  · have hy : F.scope.names.lookup y = some .cell ∨ F.scope.names.lookup y = some .free := hy
    rcases hy with hy | hy
    · obtain ⟨c, e⟩ := cell_has (n := s.heap.objs.size + 1) hy
      exact ⟨c, mk_own y c e⟩
    · obtain ⟨i, hi⟩ := List.mem_iff_getElem?.mp (S.free _ (PySem.mem_of_lookup hy) rfl)
      obtain ⟨c, hc, _⟩ := C.has i y hi
      exact ⟨c, mk_clo y c hc⟩
  · have z : F.scope.names.lookup y = some .cell := of_decide_eq_true z
    rcases look y c h with e | ⟨_, e⟩
    · exact Nat.le_of_lt (above y c e)
    · rw [hcl y c e] at z
      cases z
  · have e1 : N[i]? = some y := e1
    have clen := C.len
    unfold startF at e2
    by_cases h1 : i < ps.length
    · have hq : (ps ++ fr)[i]? = some y := by
        rw [← S.pre, List.getElem?_take_of_lt (by omega)]
        exact e1
      rw [List.getElem?_append_left h1] at hq
      rw [List.getElem?_append_left (by rw [List.length_map]; omega), List.getElem?_map] at e2
      have ha : vs[i]? = some v := by
        cases e : vs[i]? with
        | none => rw [e] at e2; cases e2
        | some a => rw [e] at e2; cases e2; rfl
      obtain ⟨u, hu, rv⟩ := r.get ha
      have ndP : ps.Nodup := by
        have q := S.nd.sublist (List.take_sublist (ps.length + fr.length) N)
        rw [S.pre] at q
        exact (List.nodup_append.mp q).1
      refine ⟨u, rv, ?_⟩
      rcases S.par y (List.mem_of_getElem? hq) with k | k
      · exact .inl ⟨k, bindL_get ndP hq hu k⟩
      · obtain ⟨c, e⟩ := cell_has (n := s.heap.objs.size + 1) k
        refine .inr ⟨.inl k, c, mk_own y c e, ?_⟩
        have q := x.cell y c e
        rw [bindC_get ndP hq hu (by show F.scope.names.lookup y ≠ _; rw [k]; decide)] at q
        exact q
    · rw [List.getElem?_append_right (by rw [List.length_map]; omega), List.length_map] at e2
      by_cases h2 : i < ps.length + fr.length
      · have hq : (ps ++ fr)[i]? = some y := by
          rw [← S.pre, List.getElem?_take_of_lt (by omega)]
          exact e1
        rw [List.getElem?_append_right (by omega)] at hq
        rw [List.getElem?_append_left (by omega), hl] at e2
        obtain ⟨c, hc, hv⟩ := C.has (i - ps.length) y hq
        obtain ⟨u, ru, hu⟩ := hv v e2
        exact ⟨u, ru, .inr ⟨.inr (S.frk y (List.mem_of_getElem? hq)), c, mk_clo y c hc, cellK hu⟩⟩
      · rw [List.getElem?_append_right (by omega), List.getElem?_replicate] at e2
        split at e2 <;> cases e2
  · rcases look y c e with e | ⟨_, e⟩
    · exact ⟨_, x.cell y c e⟩
    · obtain ⟨v, z⟩ := (C.all y c e).2
      exact ⟨v, cellK z⟩
  · rcases look y c e with e | ⟨_, e⟩
    · exact e0.hok.fresh (Nat.le_of_lt (above y c e))
    · exact (C.all y c e).1
  · have clen := C.len
    unfold startF
    show _ = N.length
    rw [List.length_append, List.length_append, List.length_map, List.length_replicate]
    omega
end
end Clo
namespace Clo
open PySem PySem.Spec PyProof.Rows L2 LamX NdefX
section
variable {CX : CXT} {P : Program} {w : World} {K : PySem.W.Frag} {mg : Str → Option Value} {base : Heap} {N ps fr : List Str} {F : NF} {f : Addr} {k : Nat} {sp : List (Option V) → Sp}
/-- a closure by its body -/
theorem nokC_of (S : CScope N ps fr F.scope) (hcl : ∀ y c, F.cl.lookup y = some c → F.scope.names.lookup y = some .free) (hb : ∀ (doc pm ctv : Value) (us : List Value), us.length = ps.length → bindArgs (F.fd doc pm ctv) ⟨us, []⟩ = pure (ps.zip us)) (len : ∀ ws vs H Q E, sp ws vs H Q E → vs.length = ps.length)
    (hbody : ∀ (A : Around) (outer : List Env) (s : Shared) (H : Hp) (vs : List V) (ws : List (Option V)) (Q : VK) (E : XK), Room k (A.deeper (envC F f s.heap.objs.size)) → H f = some (FnO f F) → H F.c = some (CodeO F.c F.qual) → ws.length = fr.length → sp ws vs H Q E →
      ∃ t, PSs (ncxC CX P w K mg base N F f A outer s H E).nox F.body t ∧ t { nx := fun _ H' => Q .non H', rt := Q } (startF N vs ws) H) :
    NOk P w K mg base CX (k + 1) f F ps fr sp := by
  refine ⟨len, fun A outer s H us vs ws Q E hr e0 hf hc C r hsp => ?_⟩
  have hl := len _ _ _ _ _ hsp
  have lim : s.heap.NoLimit := e0.mod.nolimit.keeps fun b o e => (e0.bs b o e).1
  obtain ⟨od, sl, doc, pm, ctv, ho⟩ := fnO_at e0.hok hf
  refine codeAny_call_function hr.depth ho rfl S.co S.gen rfl (codeO_at e0.hok hc) ?_
  rw [hb doc pm ctv us (by rw [← r.length]; exact hl)]
  have hpk : ∀ x ∈ ps.zip us, F.scope.names.lookup x.1 = some .local ∨ F.scope.names.lookup x.1 = some .cell := fun ⟨n, v⟩ hx => S.par n (List.of_mem_zip hx).1
  refine wpAny_pure (newEnv_clo S.kind hpk (fun x hx => ?_) fun s1 x => ?_)
  · show F.cl.lookup x.1 = none
    cases q : F.cl.lookup x.1 with
    | none => rfl
    | some c =>
      have h1 := hcl x.1 c q
      rcases hpk x hx with h2 | h2 <;> rw [h1] at h2 <;> cases h2
  refine ⟨lim.keeps x.toInCall.keep, ?_⟩
  show codeAny _ _ (.func F.body (envC F f s.heap.objs.size)) _ _
  refine codeAny_func ?_
  obtain ⟨t, ht, hq⟩ := hbody A outer s H vs ws Q E (hr.deeper _) hf hc C.len hsp
  have I : Inv (ncxC CX P w K mg base N F f A outer s H E) [] (startF N vs ws) H s1 := inv_startC S hr.hd e0 hl r C hcl x
  refine wpAny_mono (ht.nox.run [] _ (startF N vs ws) H _ I hq) (fun fl s' hs => ?_) fun e s' hs => hs
  have fin : ∀ {σ' : L2.St} {H' : Hp} {v : V} {u : Value}, Inv (ncxC CX P w K mg base N F f A outer s H E) [] σ' H' s' → L2.RelV v u → Q v H' → CE outer P w H s Q u s' :=
    fun {σ' H' v u} J rv q => ⟨v, H', J.os, J.bare, J.base, J.hok, rv, q⟩
  cases fl with
  | ret u =>
    obtain ⟨v, σ', H', J, rv, q⟩ := hs
    exact fin J rv q
  | next =>
    obtain ⟨σ', H', J, q⟩ := hs
    exact fin (v := V.non) (u := Value.none) J rfl q
  | brk =>
    obtain ⟨_, _, _, q⟩ := hs
    exact False.elim q
  | cont =>
    obtain ⟨_, _, _, q⟩ := hs
    exact False.elim q
end
end Clo
namespace Clo
open PySem PySem.Spec PyProof.Rows L2 LamX NdefX
/-! ### cells as known things -/
/-- the object at c is a cell that holds v -/
def CelO (c : Addr) (v : V) : HO := .ext fun h => ∃ u, RelV v u ∧ h.IsCell c (some u)
/-- the cell at c is known, and never written while it is so -/
def CelH (H : Hp) (c : Addr) (v : V) : Prop := ∃ o, H c = some (.frz o (CelO c v))
abbrev adr (cl : List (Str × Addr)) : List Addr := cl.map (·.2)
def remC (cl : List (Str × Addr)) (H : Hp) : Hp := fun b => if b ∈ adr cl then none else H b
def backC (cl : List (Str × Addr)) (H H2 : Hp) : Hp := fun b => if b ∈ adr cl then H b else H2 b
def addC (cl : List (Str × Addr)) (g : Addr → V) (os : Addr → Obj) (H : Hp) : Hp := fun b => if b ∈ adr cl then some (.frz (os b) (CelO b (g b))) else H b
theorem rem_in {cl : List (Str × Addr)} {H : Hp} {b : Addr} (h : b ∈ adr cl) : remC cl H b = none := if_pos h
theorem rem_out {cl : List (Str × Addr)} {H : Hp} {b : Addr} (h : b ∉ adr cl) : remC cl H b = H b := if_neg h
theorem back_in {cl : List (Str × Addr)} {H H2 : Hp} {b : Addr} (h : b ∈ adr cl) : backC cl H H2 b = H b := if_pos h
theorem back_out {cl : List (Str × Addr)} {H H2 : Hp} {b : Addr} (h : b ∉ adr cl) : backC cl H H2 b = H2 b := if_neg h
theorem add_in {cl : List (Str × Addr)} {g : Addr → V} {os : Addr → Obj} {H : Hp} {b : Addr} (h : b ∈ adr cl) : addC cl g os H b = some (.frz (os b) (CelO b (g b))) := if_pos h
theorem add_out {cl : List (Str × Addr)} {g : Addr → V} {os : Addr → Obj} {H : Hp} {b : Addr} (h : b ∉ adr cl) : addC cl g os H b = H b := if_neg h
section
variable {P : Program} {w : World} {H H' H2 : Hp} {h h' : Heap} {cl : List (Str × Addr)}
theorem celO_ok {o : Obj} {c : Addr} {v : V} {u : Value} (e : h.get? c = some o) (r : RelV v u) (d : o.data = .cell (some u)) : ObjOk P w H h c (.frz o (CelO c v)) :=
  ⟨e, ⟨u, r, o, e, d⟩, ⟨o, e⟩, fun h1 h2 ⟨u', r', o', e', d'⟩ st => ⟨u', r', o', st _ e', d'⟩⟩
theorem celO_cell {o : Obj} {c : Addr} {v : V} (x : ObjOk P w H h c (.frz o (CelO c v))) : h.get? c = some o ∧ ∃ u, RelV v u ∧ o.data = .cell (some u) := by
  obtain ⟨e, ⟨u, r, o', e', d⟩, _⟩ := x
  rw [e] at e'
  obtain rfl := Option.some.inj e'
  exact ⟨e, u, r, d⟩
/-- the tracked heap may differ at what is none in one of them -/
theorem hok_sub (x : HOk P w H h) (s : ∀ b o, H' b = some o → H b = some o) (t : ∀ b o, H b = some o → (∃ a, o = .own a) ∨ (∃ xs, o = .tup xs) → H' b = some o) : HOk P w H' h := fun b o e =>
  (x b o (s b o e)).stay (fun _ _ _ q => q) (fun c q => t c _ q (.inl ⟨_, rfl⟩)) fun c xs q => t c _ q (.inr ⟨_, rfl⟩)
theorem hok_rem (x : HOk P w H h) (hc : ∀ b ∈ adr cl, ∃ v, CelH H b v) : HOk P w (remC cl H) h := by
  refine hok_sub x (fun b o e => ?_) fun b o e k => ?_
  · by_cases hb : b ∈ adr cl
    · rw [rem_in hb] at e; cases e
    · rwa [rem_out hb] at e
  · have hb : b ∉ adr cl := fun z => by
      obtain ⟨v, ob, q⟩ := hc b z
      rw [q] at e
      obtain rfl := Option.some.inj e
      rcases k with ⟨a, k⟩ | ⟨a, k⟩ <;> cases k
    rw [rem_out hb]
    exact e
end
end Clo
namespace Clo
open PySem PySem.Spec PyProof.Rows L2 LamX NdefX
section
variable {P : Program} {w : World} {H : Hp} {s s' : Shared} {cl : List (Str × Addr)} {outer : List Env} {Q : VK} {u : Value}
/-- behind a call for which the cells were put out of sight -/
theorem ce_back (hok : HOk P w H s.heap) (hc : ∀ b ∈ adr cl, ∃ v, CelH H b v) (nf : ∀ b ∈ adr cl, b ∉ frs outer) (h : CE outer P w (remC cl H) s (fun v H2 => (∀ b ∈ adr cl, H2 b = none) → Q v (backC cl H H2)) u s') : CE outer P w H s Q u s' := by
  obtain ⟨v, H2, os, bare, un, ok, r, q⟩ := h
  have gone : ∀ b ∈ adr cl, H2 b = none := fun b hcl => by
    obtain ⟨x', o2, e'⟩ := hc b hcl
    obtain ⟨e3, _⟩ := celO_cell (hok b _ e')
    exact un.free b _ e3 (rem_in hcl) (by simp)
  have q := q gone
  have kept : ∀ b ∈ adr cl, ∃ (o : Obj) (x : V), H b = some (.frz o (CelO b x)) ∧ s'.heap.get? b = some o ∧ ∃ y, RelV x y ∧ o.data = .cell (some y) := fun b hb => by
    obtain ⟨x, o, e⟩ := hc b hb
    obtain ⟨e1, y, ry, d⟩ := celO_cell (hok b _ e)
    exact ⟨o, x, e, un.keep b o e1 (rem_in hb) (nf b hb) (by simp), y, ry, d⟩
  refine ⟨v, backC cl H H2, os, bare, ⟨fun b o e n hf hx => ?_, fun b o e n hf hx => ?_, fun b o e n hx => ?_, fun b o e hx => un.there b o e hx, fun b xs e => ?_, fun b o x e => ?_, fun b ps e => ?_⟩, fun b o e => ?_, r, q⟩
  · have hb : b ∉ adr cl := fun z => by obtain ⟨x, o', e'⟩ := hc b z; rw [n] at e'; cases e'
    exact un.keep b o e (by rw [rem_out hb]; exact n) hf hx
  · have hb : b ∉ adr cl := fun z => by obtain ⟨x, o', e'⟩ := hc b z; rw [n] at e'; cases e'
    exact un.slot b o e (by rw [rem_out hb]; exact n) hf hx
  · have hb : b ∉ adr cl := fun z => by obtain ⟨x, o', e'⟩ := hc b z; rw [n] at e'; cases e'
    rw [back_out hb]
    exact un.free b o e (by rw [rem_out hb]; exact n) hx
  · have hb : b ∉ adr cl := fun z => by obtain ⟨x, o', e'⟩ := hc b z; rw [e] at e'; cases e'
    rw [back_out hb]
    exact un.tups b xs (by rw [rem_out hb]; exact e)
  · by_cases hb : b ∈ adr cl
    · rw [back_in hb]; exact e
    · rw [back_out hb]
      exact un.frzs b o x (by rw [rem_out hb]; exact e)
  · have hb : b ∉ adr cl := fun z => by obtain ⟨x, o', e'⟩ := hc b z; rw [e] at e'; cases e'
    rw [back_out hb]
    exact un.tbls b ps (by rw [rem_out hb]; exact e)
  · by_cases hb : b ∈ adr cl
    · rw [back_in hb] at e
      obtain ⟨o', x, e1, e2, y, ry, d⟩ := kept b hb
      rw [e1] at e
      obtain rfl := Option.some.inj e
      exact celO_ok e2 ry d
    · rw [back_out hb] at e
      have hn : ∀ c, (∃ z, H2 c = some z) → c ∉ adr cl := fun c ⟨z, hz⟩ hcl => by
        obtain ⟨o', x, e1, e2, _⟩ := kept c hcl
        obtain ⟨x', o2, e'⟩ := hc c hcl
        obtain ⟨e3, _⟩ := celO_cell (hok c _ e')
        have := un.free c _ e3 (rem_in hcl) (by simp)
        rw [this] at hz
        cases hz
      exact (ok b o e).stay (fun _ _ _ q => q) (fun c q => by rw [back_out (hn c ⟨_, q⟩)]; exact q) fun c xs q => by rw [back_out (hn c ⟨_, q⟩)]; exact q
end
section
variable {X : Cx} {F : NF} {ps fr : List Str} {f : Addr} {j k : Nat} {sp : List (Option V) → Sp} {pins : List (Addr × Obj)} {σ : L2.St} {H : Hp} {s : Shared} {Q : VK} {us : List Value} {vs : List V} {ws : List (Option V)}
/-- what the cells of F hold, as known things -/
structure Cel (F : NF) (fr : List Str) (ws : List (Option V)) (H : Hp) : Prop where
  len : ws.length = fr.length
  all : ∀ b ∈ adr F.cl, ∃ v, CelH H b v
  inj : ∀ x y c, F.cl.lookup x = some c → F.cl.lookup y = some c → x = y
  has : ∀ (i : Nat) (y : Str), fr[i]? = some y → ∃ c, F.cl.lookup y = some c ∧ ∀ v, ws[i]? = some (some v) → CelH H c v
theorem look_adr {cl : List (Str × Addr)} {y : Str} {c : Addr} (h : cl.lookup y = some c) : c ∈ adr cl := List.mem_map.mpr ⟨(y, c), PySem.mem_of_lookup h, rfl⟩
theorem Cel.at (C : Cel F fr ws H) (hok : HOk X.prog X.w H s.heap) : CellsAt F.cl fr ws s.heap (remC F.cl H) := by
  refine ⟨C.len, fun y c e => ⟨rem_in (look_adr e), ?_⟩, C.inj, fun i y e => ?_⟩
  · obtain ⟨v, o, h⟩ := C.all c (look_adr e)
    obtain ⟨e1, u, _, d⟩ := celO_cell (hok c _ h)
    exact ⟨_, o, e1, d⟩
  · obtain ⟨c, hc, hv⟩ := C.has i y e
    refine ⟨c, hc, fun v ev => ?_⟩
    obtain ⟨o, h⟩ := hv v ev
    obtain ⟨e1, u, ru, d⟩ := celO_cell (hok c _ h)
    exact ⟨u, ru, o, e1, d⟩
theorem run_clo (Fn : NOk X.prog X.w X.K X.mg X.base CX0 k f F ps fr sp) (hr : Room j X.A) (hk : k ≤ j) (I : Inv X pins σ H s) (hf : H f = some (FnO f F)) (hc : H F.c = some (CodeO F.c F.qual)) (C : Cel F fr ws H) (r : Vals vs us)
    (q : sp ws vs (remC F.cl H) (fun v H2 => (∀ b ∈ adr F.cl, H2 b = none) → Q v (backC F.cl H H2)) C8.E0) : wpAny (model X.prog X.w) X.A (call (.ref f) us) (EP X pins σ Q) X.xe s := by
  have e0 := I.env0
  have out : ∀ {a : Addr} {o : HO}, H a = some o → (∀ ob x, o ≠ .frz ob x) → a ∉ adr F.cl := fun e n z => by
    obtain ⟨x, ob, e'⟩ := C.all _ z
    rw [e] at e'
    exact n _ _ (Option.some.inj e')
  have rn : ∀ b, H b = none → remC F.cl H b = none := fun b e => by
    by_cases hb : b ∈ adr F.cl
    · exact rem_in hb
    · rw [rem_out hb]; exact e
  have e1 : Env0 X.prog X.w X.K X.mg X.base X.A X.stack s (remC F.cl H) := ⟨e0.frames, e0.mod, fun b o e => ⟨(e0.bs b o e).1, rn b (e0.bs b o e).2⟩, e0.bsz, e0.funs, fun b hb => rn b (e0.frf b hb), hok_rem e0.hok C.all, e0.bare⟩
  have nf : ∀ b ∈ adr F.cl, b ∉ frs X.stack := fun b hb z => by
    obtain ⟨x, o, e'⟩ := C.all b hb
    rw [e0.frf b z] at e'
    cases e'
  refine wpAny_call (codeAny_mono (Fn.run X.A X.stack s (remC F.cl H) us vs ws _ C8.E0 (hr.mono hk) e1 (by rw [rem_out (out hf (fun _ _ z => by unfold FnO at z; cases z))]; exact hf) (by rw [rem_out (out hc (fun _ _ z => by unfold CodeO at z; cases z))]; exact hc) (C.at e0.hok) r q) fun r s' hq => ?_)
  cases r with
  | error e => exact False.elim hq
  | ok fl =>
    cases fl with
    | ret u => exact I.after (ce_back e0.hok C.all nf hq)
    | next => exact False.elim hq
    | brk => exact False.elim hq
    | cont => exact False.elim hq
/-- a closure's promise, its cells put out of sight for the call -/
def CloC (sp : List (Option V) → Sp) (ws : List (Option V)) (vs : List V) (F : NF) (H : Hp) (Q : VK) : Prop := sp ws vs (remC F.cl H) (fun v H2 => (∀ b ∈ adr F.cl, H2 b = none) → Q v (backC F.cl H H2)) C8.E0
/-- f(..), f a name that holds a closure made elsewhere -/
def tCallP (X : Cx) (j : Nat) (i : Nat) (t : TA) : TE := fun σ H Q => ∃ (f : Addr) (F : NF) (ps fr : List Str) (ws : List (Option V)) (sp : List (Option V) → Sp) (k : Nat), σ[i]? = some (some (.ref f)) ∧ H f = some (FnO f F) ∧ k ≤ j ∧ NOk X.prog X.w X.K X.mg X.base CX0 k f F ps fr sp ∧
  t σ H fun vs H1 => H1 f = some (FnO f F) ∧ H1 F.c = some (CodeO F.c F.qual) ∧ Cel F fr ws H1 ∧ CloC sp ws vs F H1 Q
theorem pe_callP {i : Nat} {x : Str} {t : TA} {e : Expr} {es : List Expr} {p pos : Pos} (hr : Room j X.A) (hN : X.N[i]? = some x) (hv : Vis X.env.scope x) (ha : PA X (e :: es) t)
    (hd : (x == ("__debug__" : Str)) = false := by decide) (hcd : (x == ("__classdict__" : Str)) = false := by decide)
    (he : starEach (e :: es) X.env = (false, eval e X.env) :: starEach es X.env := by rfl) (hpl : (backTo pos (starEach es X.env)).any (·.1) = false := by rfl) :
    PE X (.Call (.Name x p) (e :: es) [] pos) (tCallP X j i t) := by
  refine ⟨fun pins s σ H Q I h => ?_⟩
  obtain ⟨f, F, ps, fr, ws, sp, k, hs, hf, hk, Fn, ht⟩ := h
  refine wpAny_Call_Name_kw (thn ((pe_var (pos := p) hN hv hd hcd).run pins s σ H (fun v H1 => v = .ref f ∧ H1 = H) I ⟨.ref f, hs, rfl, rfl⟩) fun u s1 ⟨v, H1, I1, r1, q1⟩ => ?_)
  obtain ⟨ev, eH⟩ := q1
  subst ev
  rw [eH] at I1
  obtain rfl : u = Value.ref f := r1
  refine PySem.W.callWith_F (first := []) (fnAt_of I1 hf) (thn (ha.run pos pins s1 σ H _ I1 ht) fun us s2 ⟨vs, H2, I2, r, h1, h2, C, q⟩ => ⟨fnAt_of I2 h1, ?_⟩) he hpl
  show wpAny _ _ (call (.ref f) us) _ _ _
  exact run_clo Fn hr hk I2 h1 h2 C r q
end
end Clo
namespace Clo
open PySem PySem.Spec PyProof.Rows L2 LamX NdefX
section
variable {P : Program} {w : World} {H : Hp} {s s' : Shared} {cl : List (Str × Addr)} {outer : List Env} {Q : VK} {u : Value} {g : Addr → V} {os : Addr → Obj}
theorem hok_add (x : HOk P w H s.heap) (n : ∀ b ∈ adr cl, H b = none) (c : ∀ b ∈ adr cl, s.heap.get? b = some (os b) ∧ ∃ u, RelV (g b) u ∧ (os b).data = .cell (some u)) : HOk P w (addC cl g os H) s.heap := fun b o e => by
  by_cases hb : b ∈ adr cl
  · rw [add_in hb] at e
    obtain rfl := Option.some.inj e
    obtain ⟨e1, u, r, d⟩ := c b hb
    exact celO_ok e1 r d
  · rw [add_out hb] at e
    have hn : ∀ c, (∃ z, H c = some z) → c ∉ adr cl := fun c ⟨z, hz⟩ hcl => by rw [n c hcl] at hz; cases hz
    exact (x b o e).stay (fun _ _ _ q => q) (fun c q => by rw [add_out (hn c ⟨_, q⟩)]; exact q) fun c xs q => by rw [add_out (hn c ⟨_, q⟩)]; exact q
/-- behind a call for which the cells were made known -/
theorem ce_rem (n : ∀ b ∈ adr cl, H b = none) (c : ∀ b ∈ adr cl, s.heap.get? b = some (os b)) (nf : ∀ b ∈ adr cl, b ∉ frs outer) (h : CE outer P w (addC cl g os H) s (fun v H2 => Q v (remC cl H2)) u s') : CE outer P w H s Q u s' := by
  obtain ⟨v, H2, os', bare, un, ok, r, q⟩ := h
  have frz : ∀ b ∈ adr cl, H2 b = some (.frz (os b) (CelO b (g b))) := fun b hb => un.frzs b _ _ (add_in hb)
  refine ⟨v, remC cl H2, os', bare, ⟨fun b o e hn hf hx => ?_, fun b o e hn hf hx => ?_, fun b o e hn hx => ?_, fun b o e hx => un.there b o e hx, fun b xs e => ?_, fun b o x e => ?_, fun b ps e => ?_⟩, hok_rem ok fun b hb => ⟨g b, os b, frz b hb⟩, r, q⟩
  · by_cases hb : b ∈ adr cl
    · rw [c b hb] at e
      obtain rfl := Option.some.inj e
      exact (ok b _ (frz b hb)).1
    · exact un.keep b o e (by rw [add_out hb]; exact hn) hf hx
  · have hb : b ∉ adr cl := fun z => nf b z hf
    exact un.slot b o e (by rw [add_out hb]; exact hn) hf hx
  · by_cases hb : b ∈ adr cl
    · exact rem_in hb
    · rw [rem_out hb]
      exact un.free b o e (by rw [add_out hb]; exact hn) hx
  · have hb : b ∉ adr cl := fun z => by rw [n b z] at e; cases e
    rw [rem_out hb]
    exact un.tups b xs (by rw [add_out hb]; exact e)
  · have hb : b ∉ adr cl := fun z => by rw [n b z] at e; cases e
    rw [rem_out hb]
    exact un.frzs b o x (by rw [add_out hb]; exact e)
  · have hb : b ∉ adr cl := fun z => by rw [n b z] at e; cases e
    rw [rem_out hb]
    exact un.tbls b ps (by rw [add_out hb]; exact e)
end
section
variable {X : Cx} {sp : Sp} {pins : List (Addr × Obj)} {σ : L2.St} {H : Hp} {s : Shared} {Q : VK} {us : List Value} {vs : List V} {cl : List (Str × Addr)}
/-- the cells that the running def made and that its closures caught -/
structure Own (X : Cx) (cl : List (Str × Addr)) : Prop where
  sub : ∀ p ∈ cl, X.env.cells.lookup p.1 = some p.2
  kin : ∀ p ∈ cl, X.env.scope.names.lookup p.1 = some .cell
  fn : ∀ p ∈ cl, X.fn p.1 = true
theorem Own.made {X : Cx} {scope : Scope} (ok : X.Ok) (hfree : ∀ y ∈ scope.names, y.2 = .free → X.env.scope.names.lookup y.1 = some .cell ∧ X.fn y.1 = true) : Own X (cloFrom X.env.cells scope.names []) := by
  have key : ∀ p ∈ cloFrom X.env.cells scope.names [], X.env.cells.lookup p.1 = some p.2 ∧ X.env.scope.names.lookup p.1 = some .cell ∧ X.fn p.1 = true := fun p hp => by
    rcases cloFrom_mem (n := p.1) (c := p.2) hp with z | ⟨z, e⟩
    · cases z
    · obtain ⟨h1, h2⟩ := hfree _ z rfl
      obtain ⟨c, hc⟩ := ok.has p.1 (.inl h1)
      refine ⟨?_, h1, h2⟩
      rw [e, hc]; rfl
  exact ⟨fun p hp => (key p hp).1, fun p hp => (key p hp).2.1, fun p hp => (key p hp).2.2⟩
theorem Own.app {X : Cx} {a b : List (Str × Addr)} (h : Own X a) (k : Own X b) : Own X (a ++ b) :=
  ⟨fun p hp => (List.mem_append.mp hp).elim (h.sub p) (k.sub p), fun p hp => (List.mem_append.mp hp).elim (h.kin p) (k.kin p), fun p hp => (List.mem_append.mp hp).elim (h.fn p) (k.fn p)⟩
theorem run_add {x : Str} {f : Addr} {fd : FuncData} {ps : List Str} {ds : List Value} {k : Nat} (O : Own X cl) (F : FnOk X.prog X.w X.K X.mg X.base CX0 k f fd ps sp) (hr : Room k X.A) (hb : L2.Binds X.K fd ps []) (I : Inv X pins σ H s) (r : Vals vs us)
    (gn : Str → V) (hg : ∀ p ∈ cl, ∃ j : Nat, X.N[j]? = some p.1 ∧ σ[j]? = some (some (gn p.1)))
    (h : ∀ (g : Addr → V) (os : Addr → Obj), (∀ p ∈ cl, ∀ p' ∈ cl, p.2 = p'.2 → p.1 = p'.1) → (∀ p ∈ cl, g p.2 = gn p.1) → (∀ b ∈ adr cl, H b = none) → sp vs (addC cl g os H) (fun v H2 => Q v (remC cl H2)) C8.E0) : wpAny (model X.prog X.w) X.A (call (.ref f) us) (EP X pins σ Q) X.xe s := by
  have fr := I.freeC
  have nA : ∀ b ∈ adr cl, H b = none := fun b hb => by
    obtain ⟨p, hp, rfl⟩ := List.mem_map.mp hb
    exact fr p.1 p.2 (O.sub p hp)
  have lo : ∀ b ∈ adr cl, X.s_0.heap.objs.size ≤ b := fun b hb => by
    obtain ⟨p, hp, rfl⟩ := List.mem_map.mp hb
    exact I.ok.cab p.1 p.2 (O.fn p hp) (O.sub p hp)
  let g : Addr → V := fun c => gn ((cl.find? fun p => p.2 == c).map (·.1) |>.getD default)
  have hgn : ∀ p ∈ cl, g p.2 = gn p.1 := fun p hp => by
    show gn _ = gn _
    cases q : cl.find? fun z => z.2 == p.2 with
    | none => exact absurd (List.find?_eq_none.mp q p hp) (by simp)
    | some z =>
      have h1 := List.mem_of_find?_eq_some q
      have h2 : z.2 = p.2 := by have := List.find?_some q; exact eq_of_beq this
      have h3 : z.1 = p.1 := I.ok.inj z.1 p.1 p.2 (by rw [← h2]; exact O.sub z h1) (O.sub p hp)
      show gn z.1 = gn p.1
      rw [h3]
  let os : Addr → Obj := fun b => (s.heap.get? b).getD { cls := .none, data := .fields #[] }
  obtain ⟨m, hns, hl⟩ := id I.loc
  have cell : ∀ b ∈ adr cl, s.heap.get? b = some (os b) ∧ ∃ u, RelV (g b) u ∧ (os b).data = .cell (some u) := fun b hb => by
    obtain ⟨p, hp, rfl⟩ := List.mem_map.mp hb
    obtain ⟨j, h1, h2⟩ := hg p hp
    obtain ⟨u, ru, l⟩ := hl j p.1 _ h1 h2 (.inr (.inl (O.kin p hp)))
    rcases l with ⟨z, _⟩ | ⟨_, c, hc, o, ho, hd⟩
    · have z : X.env.scope.names.lookup p.1 = some .local := z
      rw [O.kin p hp] at z
      cases z
    · rw [O.sub p hp] at hc
      cases hc
      have e : os p.2 = o := by show (s.heap.get? p.2).getD _ = o; rw [ho]; rfl
      rw [e, hgn p hp]
      exact ⟨ho, u, ru, hd⟩
  have e0 := I.env0
  have rn : ∀ b, b ∉ adr cl → H b = none → addC cl g os H b = none := fun b hb e => by rw [add_out hb]; exact e
  have nf : ∀ b ∈ adr cl, b ∉ frs X.stack := fun b hb z => by
    have nfs : b ∉ X.fs := fun y => by
      obtain ⟨_, o, e, _⟩ := I.ok.funs.mem y
      exact absurd (Nat.lt_of_lt_of_le (Heap.lt_size e) (lo b hb)) (Nat.lt_irrefl _)
    rcases I.ok.stk with e | ⟨e, e2⟩
    · rw [e] at z
      exact nfs z
    · rw [e] at z
      have z : b ∈ List.filterMap (·.frame) (X.env :: X.outer) := z
      rw [List.filterMap_cons, e2] at z
      rcases List.mem_cons.mp z with z | z
      · obtain ⟨od, es, ep, eo, ex, ed, _⟩ := hns
        obtain ⟨e1, u, _, d⟩ := cell b hb
        subst z
        rw [eo] at e1
        rw [← Option.some.inj e1, ex] at d
        cases d
      · exact nfs z
  have e1 : Env0 X.prog X.w X.K X.mg X.base X.A X.stack s (addC cl g os H) := ⟨e0.frames, e0.mod, fun b o e => ⟨(e0.bs b o e).1, rn b (fun z => by
      exact absurd (Nat.lt_of_lt_of_le (Heap.lt_size e) (Nat.le_trans I.ok.bsz (lo b z))) (Nat.lt_irrefl _)) (e0.bs b o e).2⟩, e0.bsz, e0.funs, fun b hb => rn b (fun z => nf b z hb) (e0.frf b hb), hok_add e0.hok nA cell, e0.bare⟩
  have q := h g os (fun p hp p' hp' e => I.ok.inj p.1 p'.1 p.2 (O.sub p hp) (by rw [e]; exact O.sub p' hp')) hgn nA
  have hl2 : us.length = ps.length := by rw [← r.length]; exact F.len _ _ _ _ q
  have hb' : BindsTo s fd ⟨us, []⟩ (ps.zip us) := by
    have z := hb s us I.kIn (by rw [List.append_nil]; exact hl2)
    rw [List.append_nil] at z
    exact z
  refine wpAny_call (codeAny_mono (F.run X.A X.stack s (addC cl g os H) ⟨us, []⟩ us vs _ C8.E0 hr e1 hb' r q) fun r s' hq => ?_)
  cases r with
  | error e => exact False.elim hq
  | ok fl =>
    cases fl with
    | ret u => exact I.after (ce_rem nA (fun b hb => (cell b hb).1) nf hq)
    | next => exact False.elim hq
    | brk => exact False.elim hq
    | cont => exact False.elim hq
/-- f(..), closures of this def among the arguments: their cells are known to f -/
def tCallAdd (X : Cx) (cl : List (Str × Addr)) (sp : Sp) (t : TA) : TE := fun σ H Q => t σ H fun vs H1 => ∃ gn : Str → V, (∀ p ∈ cl, ∃ j : Nat, X.N[j]? = some p.1 ∧ σ[j]? = some (some (gn p.1))) ∧
  ∀ (g : Addr → V) (os : Addr → Obj), (∀ p ∈ cl, ∀ p' ∈ cl, p.2 = p'.2 → p.1 = p'.1) → (∀ p ∈ cl, g p.2 = gn p.1) → (∀ b ∈ adr cl, H1 b = none) → sp vs (addC cl g os H1) (fun v H2 => Q v (remC cl H2)) C8.E0
theorem pe_cAdd {x : Str} {k j : Nat} {p pos : Pos} {e : Expr} {es : List Expr} {t : TA} (O : X.Ok → Own X cl) (c : C8.Cal X.prog X.w X.K X.mg X.base k x sp []) (hr : Room j X.A) (hk : k ≤ j) (hg : Gl X x) (ha : PA X (e :: es) t)
    (hdb : (x == ("__debug__" : Str)) = false := by decide) (he : starEach (e :: es) X.env = (false, eval e X.env) :: starEach es X.env := by rfl) (hpl : (backTo pos (starEach es X.env)).any (·.1) = false := by rfl) :
    PE X (.Call (.Name x p) (e :: es) [] pos) (tCallAdd X cl sp t) := by
  obtain ⟨f, fd, ps, ds, F, hm, kp, b, d⟩ := c.ex
  have ed : ds = [] := by cases d; rfl
  subst ed
  refine ⟨fun pins s σ H Q I h => ?_⟩
  refine wpAny_Call_Name_kw (ld_glob I hg hm ?_ hdb)
  refine PySem.W.callWith_K (h₀ := X.base) I.ok.mod.kin kp (thn (ha.run pos pins s σ H _ I h) fun us s1 ⟨vs, H1, I1, r, gn, hgn, q⟩ => ⟨I1.kIn, ?_⟩) he hpl
  exact run_add (x := x) (ds := []) (O I1.ok) F (hr.mono hk) b I1 r gn hgn q
end
end Clo
namespace Clo
open PySem PySem.Spec PyProof.Rows L2 LamX NdefX
/-! ### defs whose code object is told -/
structure FunC (K : PySem.W.Frag) (x qual : Str) (st : Stmt) (f : Addr) (fd : FuncData) (c : Addr) : Prop where
  ex : ∃ (oc : Value) (od : Option Addr) (kV doc pm : Value) (an : Option Addr) (ct : Value) (osl : Array (Option Value)),
    fd = PySem.W.fnOf x qual (defArgs st) (defBody st) (defScope st) .none kV doc pm an (.ref c) ct ∧ K.lookup f = some ⟨oc, od, .func fd, osl⟩ ∧ PySem.W.codeIn K (.ref c) qual = true
  kp : PySem.W.keepIn K (.ref f) = true
structure HasC (K : PySem.W.Frag) (mg : Str → Option Value) (x : Str) (st : Stmt) (ps : List Str) (c : Addr) : Prop where
  ex : ∃ (f : Addr) (fd : FuncData), FunC K x x st f fd c ∧ mg x = some (.ref f) ∧ L2.Binds K fd ps []
theorem func_mk {K : PySem.W.Frag} {x qual : Str} {st : Stmt} {f c : Addr} {oc : Value} {od an : Option Addr} {osl : Array (Option Value)} {kV doc pm ct : Value} (l : K.lookup f = some ⟨oc, od, .func (PySem.W.fnOf x qual (defArgs st) (defBody st) (defScope st) .none kV doc pm an (.ref c) ct), osl⟩)
    (cc : PySem.W.codeIn K (.ref c) qual = true) (k : PySem.W.keepIn K (.ref f) = true) : FunC K x qual st f (PySem.W.fnOf x qual (defArgs st) (defBody st) (defScope st) .none kV doc pm an (.ref c) ct) c := ⟨⟨oc, od, kV, doc, pm, an, ct, osl, rfl, l, cc⟩, k⟩
section
variable {P : Program} {w : World} {K : PySem.W.Frag} {mg : Str → Option Value} {base : Heap}
theorem FunC.ok {x qual : Str} {st : Stmt} {f c : Addr} {fd : FuncData} {N ps : List Str} {k : Nat} {sp : Sp} (F : FunC K x qual st f fd c) (S : FnScope N ps (defScope st)) (len : ∀ vs H Q E, sp vs H Q E → vs.length = ps.length)
    (hbody : ∀ (A : Around) (outer : List Env) (s : Shared) (H : Hp) (vs : List V) (Q : VK) (E : XK), Room k (A.deeper (envOfC qual (defScope st) s.heap.objs.size f (.ref c))) → sp vs H Q E →
      ∃ t, PSs (cxOf CX0 P w K mg base N qual (defScope st) f (.ref c) A outer s H E).nox (defBody st) t ∧ t { nx := fun _ H' => Q .non H', rt := Q } (start N vs) H) : FnOk P w K mg base CX0 (k + 1) f fd ps sp := by
  obtain ⟨oc, od, kV, doc, pm, an, ct, osl, rfl, lk, hcd⟩ := F.ex
  refine fn_of lk hcd S len fun A outer s H vs Q E hr hsp => ?_
  obtain ⟨t, h, q⟩ := hbody A outer s H vs Q E hr hsp
  exact ⟨t, h.nox, q⟩
theorem FunC.okX {x qual : Str} {st : Stmt} {f c : Addr} {fd : FuncData} {N ps : List Str} {k : Nat} {sp : Sp} (F : FunC K x qual st f fd c) (S : FnScope N ps (defScope st)) (len : ∀ vs H Q E, sp vs H Q E → vs.length = ps.length)
    (hbody : ∀ (A : Around) (outer : List Env) (s : Shared) (H : Hp) (vs : List V) (Q : VK) (E : XK), Room k (A.deeper (envOfC qual (defScope st) s.heap.objs.size f (.ref c))) → sp vs H Q E →
      ∃ t, PSs (cxOf (L2.CX P w) P w K mg base N qual (defScope st) f (.ref c) A outer s H E) (defBody st) t ∧ t { nx := fun _ H' => Q .non H', rt := Q } (start N vs) H) : FnOk P w K mg base (L2.CX P w) (k + 1) f fd ps sp := by
  obtain ⟨oc, od, kV, doc, pm, an, ct, osl, rfl, lk, hcd⟩ := F.ex
  exact fn_of lk hcd S len fun A outer s H vs Q E hr hsp => hbody A outer s H vs Q E hr hsp
end
/-- where the code object c keeps the code objects of the defs in its def -/
def codeTab (K : PySem.W.Frag) (c : Addr) : Option Addr := match K.lookup c with
  | some ⟨.type "code", _, .fields vs, _⟩ => (match (vs[11]? : Option Value) with
    | some (.ref P) => some P
    | _ => none)
  | _ => none
/-! ### closures made -/
theorem clo_free {N ps fr : List Str} {sc : Scope} (S : CScope N ps fr sc) {cells : List (Str × Addr)} {y : Str} {c : Addr} (h : (cloFrom cells sc.names []).lookup y = some c) : sc.names.lookup y = some .free := by
  rcases cloFrom_mem (PySem.mem_of_lookup h) with z | ⟨z, _⟩
  · cases z
  · exact S.uq _ z
section
variable {X : Cx}
theorem Own.made2 {scope sc : Scope} (hs : X.env.scope = sc) (hfn : ∀ x, X.fn x = true) (h : (scope.names.all fun y => !decide (y.2 = .free) || decide (sc.names.lookup y.1 = some .cell)) = true) (ok : X.Ok) : Own X (cloFrom X.env.cells scope.names []) :=
  Own.made ok fun y hy e => by
    have := List.all_eq_true.mp h y hy
    rw [hs]
    refine ⟨?_, hfn _⟩
    rw [e] at this
    simpa using this
/-- def name(..) in a def -/
theorem ps_nd {T : List NTab} {nm : Nat → Nat → Str} {c P : Addr} {name : Str} {st : Stmt} {sc : Scope} {pos : Pos} {i : Nat} (TB : TabB X.base X.mg c P) (hst : st = .FunctionDef name (C8.fnArgs st) (C8.fnBody st) [] none [] (C8.fnScope st) none name pos) (hcode : X.env.code = .ref c) (hm : (P, nm) ∈ T)
    (hn : nm pos.line pos.col = X.env.qual ++ name) (hu : ∀ p ∈ T, p.1 = P → p.2 = nm) (hs : X.env.scope = sc) (hfree : ((C8.fnScope st).names.all fun y => !decide (y.2 = .free) || decide (sc.names.lookup y.1 = some .cell)) = true) (hd0 : (C8.fnArgs st).defaults = []) (hk0 : (C8.fnArgs st).kw_defaults = [])
    (ha : annTrees (C8.fnArgs st) none X.env = []) (hN : X.N.Nodup) (hi : X.N[i]? = some name) (hx : Loc X.env.scope name) (hf : X.fn name = true ∨ X.env.scope.names.lookup name = some .local) :
    PS X st (tNdefM T i (NF.of st name (X.env.qual ++ name) (cloFrom X.env.cells (C8.fnScope st).names []))) :=
  ps_ndefMS hst TB hcode hm hn hu (fun y hy e => by
    have := List.all_eq_true.mp hfree y hy
    rw [hs]
    rw [e] at this
    exact .inl (by simpa using this)) hd0 hk0 ha hN hi hx hf
end
/-! ### what is known of the cells of a closure -/
theorem cel_of {F : NF} {fr : List Str} {cl : List (Str × Addr)} {g : Addr → V} {os : Addr → Obj} {gn : Str → V} {H : Hp} {cells : List (Str × Addr)} {names : List (Str × NameKind)} (hF : F.cl = cloFrom cells names []) (hfr : ∀ y ∈ fr, (y, NameKind.free) ∈ names) (sub : ∀ p ∈ F.cl, p ∈ cl)
    (inj : ∀ p ∈ cl, ∀ p' ∈ cl, p.2 = p'.2 → p.1 = p'.1) (hg : ∀ p ∈ cl, g p.2 = gn p.1) : Cel F fr (fr.map fun y => some (gn y)) (addC cl g os H) := by
  have inn : ∀ {y : Str} {c : Addr}, F.cl.lookup y = some c → (y, c) ∈ cl := fun e => sub _ (PySem.mem_of_lookup e)
  have cel : ∀ {y : Str} {c : Addr}, (y, c) ∈ cl → CelH (addC cl g os H) c (gn y) := fun {y c} h => by
    refine ⟨os c, ?_⟩
    rw [add_in (List.mem_map.mpr ⟨(y, c), h, rfl⟩), hg (y, c) h]
  refine ⟨List.length_map _, fun b hb => ?_, fun x y c h1 h2 => inj (x, c) (inn h1) (y, c) (inn h2) rfl, fun i y e => ?_⟩
  · obtain ⟨p, hp, rfl⟩ := List.mem_map.mp hb
    exact ⟨_, cel (y := p.1) (sub p hp)⟩
  · have hm := cloFrom_has (cells := cells) (acc := []) (hfr y (List.mem_of_getElem? e))
    rw [← hF] at hm
    obtain ⟨c, hc⟩ := mem_lookup hm
    refine ⟨c, hc, fun v ev => ?_⟩
    rw [List.getElem?_map, e] at ev
    have ev : some (gn y) = some v := Option.some.inj ev
    rw [← Option.some.inj ev]
    exact cel (inn hc)
theorem Cel.ext {F : NF} {fr : List Str} {ws : List (Option V)} {H H' : Hp} (C : Cel F fr ws H) (s : ∀ b o, H b = some o → H' b = some o) : Cel F fr ws H' :=
  ⟨C.len, fun b hb => let ⟨v, o, e⟩ := C.all b hb; ⟨v, o, s _ _ e⟩, C.inj, fun i y e => let ⟨c, h1, h2⟩ := C.has i y e; ⟨c, h1, fun v ev => let ⟨o, e⟩ := h2 v ev; ⟨o, s _ _ e⟩⟩⟩
/-- the heap without tables -/
def nt (H : Hp) : Hp := fun b => match H b with
  | some (.tbl _) => none
  | x => x
theorem nt_of {H : Hp} {b : Addr} {o : HO} (h : nt H b = some o) : H b = some o ∧ ∀ ps, o ≠ .tbl ps := by
  unfold nt at h
  split at h
  · cases h
  · rename_i x hx
    refine ⟨h, fun ps e => ?_⟩
    rw [e] at h
    exact hx ps h
theorem nt_get {H : Hp} {b : Addr} {o : HO} (h : H b = some o) (n : ∀ ps, o ≠ .tbl ps) : nt H b = some o := by
  unfold nt
  rw [h]
  cases o with
  | tbl ps => exact absurd rfl (n ps)
  | _ => rfl
theorem rem_keep {cl : List (Str × Addr)} {H2 : Hp} (hc : ∀ b ∈ adr cl, ∃ o x, H2 b = some (.frz o x)) {b : Addr} {o : HO} (h : H2 b = some o) (n : ∀ ob x, o ≠ .frz ob x) : remC cl H2 b = some o := by
  rw [rem_out fun z => ?_]
  · exact h
  · obtain ⟨ob, x, e⟩ := hc b z
    rw [h] at e
    exact n _ _ (Option.some.inj e)
theorem add_frz {cl : List (Str × Addr)} {g : Addr → V} {os : Addr → Obj} {H1 H2 : Hp} (s : ∀ b o, addC cl g os H1 b = some o → H2 b = some o) : ∀ b ∈ adr cl, ∃ o x, H2 b = some (.frz o x) := fun b hb => ⟨_, _, s _ _ (add_in hb)⟩
theorem add_keep {cl : List (Str × Addr)} {g : Addr → V} {os : Addr → Obj} {H1 : Hp} (n : ∀ b ∈ adr cl, H1 b = none) : ∀ b o, H1 b = some o → addC cl g os H1 b = some o := fun b o e => by
  rw [add_out fun z => ?_]
  · exact e
  · rw [n b z] at e; cases e
theorem add_same {cl : List (Str × Addr)} {g : Addr → V} {os : Addr → Obj} {H1 H2 : Hp} (n : ∀ b ∈ adr cl, H1 b = none) (s : ∀ b o, addC cl g os H1 b = some o → H2 b = some o) : ∀ b o, H1 b = some o → remC cl H2 b = some o := fun b o e => by
  rw [rem_out fun z => ?_]
  · exact s _ _ (add_keep n b o e)
  · rw [n b z] at e; cases e
theorem Cel.keep {F : NF} {fr : List Str} {ws : List (Option V)} {H : Hp} (C : Cel F fr ws H) {b : Addr} {o : HO} (h : H b = some o) (n : ∀ ob x, o ≠ .frz ob x) : remC F.cl H b = some o := by
  rw [rem_out fun z => ?_]
  · exact h
  · obtain ⟨v, ob, e⟩ := C.all b z
    rw [h] at e
    exact n _ _ (Option.some.inj e)
theorem Cel.back {F : NF} {fr : List Str} {ws : List (Option V)} {H H2 : Hp} (C : Cel F fr ws H) (s : ∀ b o, remC F.cl H b = some o → H2 b = some o) : ∀ b o, H b = some o → backC F.cl H H2 b = some o := fun b o e => by
  by_cases z : b ∈ adr F.cl
  · rw [back_in z]; exact e
  · rw [back_out z]; exact s _ _ (by rw [rem_out z]; exact e)
theorem back_new {cl : List (Str × Addr)} {H H2 : Hp} (n : ∀ b ∈ adr cl, H2 b = none) {b : Addr} {o : HO} (h : H2 b = some o) : backC cl H H2 b = some o := by
  rw [back_out fun z => ?_]
  · exact h
  · rw [n b z] at h; cases h
theorem ExtN.nt {H H' : Hp} (e : ExtN H H') : ∀ b o, Clo.nt H b = some o → H' b = some o := fun b o h => e b o (nt_of h).1 (nt_of h).2
end Clo
namespace Bx
open PySem PySem.Spec PyProof.Rows L2
/-! a dict comprehension whose keys are tuples -/
/-- one entry more, the key an int, a text or a tuple of such -/
theorem put_in {X : Cx} {pins : List (Addr × Obj)} {σ : L2.St} {H H' : Hp} {s : Shared} {E : Value → Shared → Prop} {D : Addr} {y z : V} {u r : Value} {Q : Unit → Shared → Prop} (hu : X.A.units + 1 < cLine) (I : Inv X pins σ H s) (g : DPut H D y z H') (ry : RelV y u) (rz : RelV z r)
    (h : ∀ s', Inv X pins σ H' s' → Q () s') : wpAny (model X.prog X.w) X.A (dictSet D u r) Q E s := by
  rcases g with ⟨kvs, k, e, rfl, l, rfl⟩ | ⟨kvs, k, b, e, rfl, eb, l, rfl⟩
  · exact d_dictSet I e l ry rz h
  · cases (show u = Value.ref b from ry)
    obtain ⟨zl, hsm, xs, rel, DO⟩ := dt_of I.hok e
    have hl : (putK kvs k z).length ≤ sizeLine := by have := length_putK kvs k z; omega
    refine wpAny_dictSet_heap (knd := tupleKind (mixKind X.prog X.w)) (Nat.lt_of_le_of_lt (Nat.le_succ _) hu) (key_of I.hok eb) DO (fun h' DO' sb => ?_) (by rw [← Paired.length rel]; exact zl)
    obtain ⟨q, es, ep, hq, h2, h3, h4, _, h5⟩ := DO'
    refine h _ ?_
    refine d_write I (by rw [e]; exact True.intro) sb ⟨q, hq⟩ ⟨hl, hsm, _, (rel.put k eb rz).keeps fun c ys ec => ?_, q, es, ep, hq, h2, h3, h4, h5⟩
    rw [upd_ne (ne_of ec e (fun z => nomatch z))]
    exact ec
/-- {k: v for ..}: the new dict D, an entry a turn -/
def tDcT (wi : TI) (g : TG) (tt : TT) (tk tv : TE) (vs : List Nat) : TE := fun σ H Q => wi σ H fun J H1 => ∀ D, H1 D = none → ∃ W : Nat → Nat → Hp → Prop, (∃ m, W 0 m (upd H1 D (.dT []))) ∧ ∀ i m H2, W i m H2 →
  (J.stop i H2 ∧ Q (.ref D) H2) ∨ (J.go i H2 ∧ ∃ Nx : Hp → Prop, (∀ H', Nx H' → ∃ m', m' < m ∧ W (i + 1) m' H') ∧ ∀ x H3, J.yld i H2 x H3 → g x (wipe σ vs) H3 fun σ2 H4 => wipe σ2 vs = wipe σ vs ∧ tt σ2 H4 fun b H5 =>
    if b = true then tk σ2 H5 fun y H6 => tv σ2 H6 fun z H7 => ∃ H8, DPut H7 D y z H8 ∧ Nx H8 else Nx H5)
theorem pe_dcT {X : Cx} {kx vx tg iter : Expr} {ifs : List Expr} {scope : Scope} {own : List (Str × Nat)} {pos : Pos} {wi : TI} {g : TG} {tt : TT} {tk tv : TE} (hu : X.A.units + 1 < cLine) (hc : X.calm = true) (hN : X.N.Nodup) (hi : PI X tg iter wi) (ok : BlkOk X.N X.env.scope scope own)
    (hg : ∀ (s : Shared) (H : Hp) (C : Addr) (cl : List (Str × Addr)) (fp : List Addr), PG (X.blk s H scope (compEnvC scope cl C X.env) fp) tg g) (ht : ∀ (s : Shared) (H : Hp) (C : Addr) (cl : List (Str × Addr)) (fp : List Addr), PTs (X.blk s H scope (compEnvC scope cl C X.env) fp) ifs tt)
    (hk : ∀ (s : Shared) (H : Hp) (C : Addr) (cl : List (Str × Addr)) (fp : List Addr), PE (X.blk s H scope (compEnvC scope cl C X.env) fp) kx tk)
    (he : ∀ (s : Shared) (H : Hp) (C : Addr) (cl : List (Str × Addr)) (fp : List Addr), PE (X.blk s H scope (compEnvC scope cl C X.env) fp) vx tv) (hs : ∀ x, foldedSetIterable iter X.env x = pure x := by intro _; rfl) :
    PE X (.DictComp kx vx [⟨tg, iter, ifs, 0⟩] scope pos) (tDcT wi g tt tk tv (own.map (·.2))) := by
  refine ⟨fun pins s σ H Q I h => ?_⟩
  rw [arm_eval_DictComp]
  refine wpAny_comprehension_free (use := none) rfl hs (closure_ok fun y hy e => (ok.free y hy e).elim (fun k => I.ok.has _ (.inl k)) (fun k => I.ok.has _ (.inr k))) ok.kind (fun y hy e => by rw [ok.uniq y hy, e]) (thn (hi.run pins s σ H _ I h) fun xv s1 hx => thn hx fun itv s2 h2 => ?_)
  obtain ⟨it, fp, tn, J, H2, rfl, I2, T, st2, f2, q⟩ := h2
  refine wpAny_newObj_type (newEnv_comp ?_)
  obtain ⟨D, hD⟩ : ∃ D, D = s2.heap.objs.size := ⟨_, rfl⟩
  rw [← hD]
  obtain ⟨W, ⟨m0, w0⟩, turn⟩ := q D (I2.hok.fresh (Nat.le_of_eq hD.symm))
  obtain ⟨H3, hH3⟩ : ∃ H3, H3 = upd H2 D (.dT []) := ⟨_, rfl⟩
  obtain ⟨s3, hs3⟩ : ∃ s3 : Shared, s3 = { s2 with heap := s2.heap.push { cls := .type "dict", data := .dict #[] } } := ⟨_, rfl⟩
  have hp3 : s3.heap = s2.heap.push { cls := .type "dict", data := .dict #[] } := by rw [hs3]
  have I3 : Inv X pins σ H3 s3 := by
    rw [hs3, hH3, hD]
    exact I2.laid (t' := s2.toks) (fun b o e => Heap.get?_push_of_some _ e) (Nat.le_refl _) (dt_empty s2.heap I2.big)
  have f3 : ∀ b ∈ fp, FpOk X pins H3 b ∧ b < s3.heap.objs.size := fun b hb => by
    obtain ⟨o, e, _⟩ := T.obj _ _ st2 b hb
    have lt := Heap.lt_size e
    refine ⟨⟨?_, (f2 b hb).2⟩, by rw [hp3, Heap.size_push]; exact Nat.lt_succ_of_lt lt⟩
    rw [hH3, upd_ne (by rw [hD]; exact Nat.ne_of_lt lt)]
    exact (f2 b hb).1
  have I4 := block_start I3 ok hN f3
  rw [← hH3] at w0
  have st4 : tn 0 (pushCells (s3.heap.push { cls := .type "dict", data := .dict #[] }) scope.names) :=
    T.keep _ _ _ st2 fun b _ o e => pushCells_keeps _ _ _ _ (Heap.get?_push_of_some _ (by rw [hp3]; exact Heap.get?_push_of_some _ e))
  have core : codeAny (model X.prog X.w) X.A (.compStart (.DictComp kx vx [⟨tg, iter, ifs, 0⟩] scope pos) 0 (.ref it) (.ref D) (compEnvC scope (cellsFrom (s3.heap.objs.size + 1) scope.names (cloFrom X.env.cells scope.names [])) s3.heap.objs.size X.env))
      (compPost (model X.prog X.w) X.A X.xe none (EP X pins σ Q) (.ref D) s3.heap.objs.size) { s3 with heap := pushCells (s3.heap.push { cls := .type "dict", data := .dict #[] }) scope.names } := by
    have pg := hg s3 H3 s3.heap.objs.size (cellsFrom (s3.heap.objs.size + 1) scope.names (cloFrom X.env.cells scope.names [])) fp
    have pt := ht s3 H3 s3.heap.objs.size (cellsFrom (s3.heap.objs.size + 1) scope.names (cloFrom X.env.cells scope.names [])) fp
    have pk := hk s3 H3 s3.heap.objs.size (cellsFrom (s3.heap.objs.size + 1) scope.names (cloFrom X.env.cells scope.names [])) fp
    have pe := he s3 H3 s3.heap.objs.size (cellsFrom (s3.heap.objs.size + 1) scope.names (cloFrom X.env.cells scope.names [])) fp
    have cL : (compEnvC scope (cellsFrom (s3.heap.objs.size + 1) scope.names (cloFrom X.env.cells scope.names [])) s3.heap.objs.size X.env).locals = s3.heap.objs.size := rfl
    generalize compEnvC scope (cellsFrom (s3.heap.objs.size + 1) scope.names (cloFrom X.env.cells scope.names [])) s3.heap.objs.size X.env = ce at I4 pg pt pk pe cL ⊢
    have lay : ∀ {σ' : L2.St} {H' : Hp} {s' : Shared}, Inv (X.blk s3 H3 scope ce fp) [] σ' H' s' → (∀ b ∈ fp, H' b = none) → ∀ b ∈ fp, FpOk (X.blk s3 H3 scope ce fp) [] H' b := fun I' n b hb => ⟨n b hb, (I'.ok.exf b hb).1, I'.ok.exfs b hb, .inl hb, fun x c e => (I'.ok.exf b hb).2 x c e, fun p hp => nomatch (show p ∈ ([] : List (Addr × Obj)) from hp)⟩
    have turns : codeAny (model X.prog X.w) X.A (.compLoop (.DictComp kx vx [⟨tg, iter, ifs, 0⟩] scope pos) 0 (.ref it) (.ref D) ce) (compPost (model X.prog X.w) X.A X.xe none (EP X pins σ Q) (.ref D) s3.heap.objs.size) { s3 with heap := pushCells (s3.heap.push { cls := .type "dict", data := .dict #[] }) scope.names } := by
      refine compLoop_anyD (fun n s' => ∃ i H', Inv (X.blk s3 H3 scope ce fp) [] (wipe σ (own.map (·.2))) H' s' ∧ tn i s'.heap ∧ (∀ b ∈ fp, H' b = none) ∧ W i n H') ?_ m0 ⟨0, H3, I4, st4, fun b hb => (f3 b hb).1.1, w0⟩
      rintro n s5 ⟨i, H5, I5, st5, n5, w5⟩
      rcases turn i n H5 w5 with ⟨stop, qq⟩ | ⟨go, Nx, hNx, step⟩
      · refine thnF (T.done (X.blk s3 H3 scope ce fp) rfl rfl rfl hc i [] s5 _ H5 (fun _ _ => False) I5 (lay I5 n5) st5 stop) fun r s6 ⟨hr, I6⟩ => ?_
        subst hr
        have I7 : Inv X pins σ H5 s6 := I3.call' (ch := fp) I6.os I6.base I6.hok I6.bare fun b hb => ⟨(f3 b hb).1.2.2.2.1, (f3 b hb).1.2.1, (f3 b hb).1.2.2.2.2.1, (f3 b hb).1.2.2.2.2.2⟩
        have nC : H5 s3.heap.objs.size = none := by
          have zz : H5 ce.locals = none := I6.free
          rwa [cL] at zz
        obtain ⟨mm, hn, _⟩ := I6.loc
        have hn : s6.heap.Ns ce.locals mm := hn
        rw [cL] at hn
        obtain ⟨f0, f1, f4, f5, f6, f7⟩ := I3.fpOk (Nat.le_refl _) nC
        exact ⟨mm, hn, fun h'' sb => ⟨.ref D, H5, I7.turned (t' := s6.toks) (fun b o hb e => (sb.2 b hb).trans e) f0 f1 f5 f6 f7, rfl, qq⟩⟩
      · refine thnF (T.item (X.blk s3 H3 scope ce fp) rfl rfl rfl hc i [] s5 _ H5 (fun _ _ => False) I5 (lay I5 n5) st5 go) fun r s6 ⟨u, hr, h6⟩ => ?_
        subst hr
        refine thnF h6 fun _ s7 ⟨x, H7, I7, r7, y7, st7, n7⟩ => ?_
        refine thnF (pg.run _ s7 _ H7 x u _ (I7.pinned (lay I7 n7) (T.obj _ _ st7)) r7 (step x H7 y7)) fun _ s8 ⟨σ8, H8, I8, hw8, q8⟩ => ?_
        refine thnF (pt.run _ s8 σ8 H8 _ I8 q8) fun b s9 ⟨H9, I9, q9⟩ => ?_
        have next : ∀ {s' : Shared} {H' : Hp}, Inv (X.blk s3 H3 scope ce fp) ([] ++ pinsAt fp s7.heap) σ8 H' s' → Nx H' → ∃ m, m < n ∧ ∃ i H', Inv (X.blk s3 H3 scope ce fp) [] (wipe σ (own.map (·.2))) H' s' ∧ tn i s'.heap ∧ (∀ b ∈ fp, H' b = none) ∧ W i m H' := fun {s' H'} I' nx => by
          obtain ⟨m', hm, w'⟩ := hNx H' nx
          have pin' : ∀ b ∈ fp, ∀ o, s7.heap.get? b = some o → s'.heap.get? b = some o ∧ H' b = none := fun b hb o e => (fun z => ⟨z.1, z.2.1⟩) (I'.pin (b, o) (List.mem_append_right _ (List.mem_append_right _ (mem_pinsAt hb e))))
          refine ⟨m', hm, i + 1, H', (I'.unpinned (pins := [])).weak (by rw [← hw8, wipe_length]) (fun j v e => ?_), T.keep _ _ _ st7 fun b hb o e => (pin' b hb o e).1, fun b hb => ?_, w'⟩
          · rw [← hw8] at e
            exact (wipe_some e).1
          · obtain ⟨o, e, _⟩ := T.obj _ _ st7 b hb
            exact (pin' b hb o e).2
        cases b with
        | false => exact next I9 (by rwa [if_neg Bool.false_ne_true] at q9)
        | true =>
          rw [if_pos rfl] at q9
          refine thnF (pk.run _ s9 σ8 H9 _ I9 q9) fun kv s10 ⟨yk, H10, I10, r10, q10⟩ => ?_
          refine thnF (pe.run _ s10 σ8 H10 _ I10 q10) fun vv s11 ⟨yv, H11, I11, r11, H12, g, nx⟩ => ?_
          exact put_in (X := X.blk s3 H3 scope ce fp) hu I11 g r10 r11 fun s12 I12 => next I12 nx
    exact codeAny_compStart_dict turns (T.self X.A 0 _ _ _ st4 turns)
  rw [hs3] at core
  exact core
end Bx
namespace Clo
open PySem PySem.Spec PyProof.Rows L2 LamX NdefX
/-- f(..) for a closure that a variable holds, told without the context -/
def tCallQ (P : Program) (w : World) (K : PySem.W.Frag) (mg : Str → Option Value) (base : Heap) (j : Nat) (i : Nat) (t : TA) : TE := fun σ H Q => ∃ (f : Addr) (F : NF) (ps fr : List Str) (ws : List (Option V)) (sp : List (Option V) → Sp) (k : Nat), σ[i]? = some (some (.ref f)) ∧ H f = some (FnO f F) ∧ k ≤ j ∧ NOk P w K mg base CX0 k f F ps fr sp ∧
  t σ H fun vs H1 => H1 f = some (FnO f F) ∧ H1 F.c = some (CodeO F.c F.qual) ∧ Cel F fr ws H1 ∧ CloC sp ws vs F H1 Q
theorem pe_callQ {X : Cx} {P : Program} {w : World} {K : PySem.W.Frag} {mg : Str → Option Value} {base : Heap} {i j : Nat} {x : Str} {t : TA} {e : Expr} {es : List Expr} {p pos : Pos} (hP : X.prog = P) (hw : X.w = w) (hK : X.K = K) (hm : X.mg = mg) (hb : X.base = base) (hr : Room j X.A) (hN : X.N[i]? = some x) (hv : Vis X.env.scope x) (ha : PA X (e :: es) t)
    (hd : (x == ("__debug__" : Str)) = false := by decide) (hcd : (x == ("__classdict__" : Str)) = false := by decide)
    (he : starEach (e :: es) X.env = (false, eval e X.env) :: starEach es X.env := by rfl) (hpl : (backTo pos (starEach es X.env)).any (·.1) = false := by rfl) :
    PE X (.Call (.Name x p) (e :: es) [] pos) (tCallQ P w K mg base j i t) := by
  subst hP hw hK hm hb
  exact pe_callP hr hN hv ha hd hcd he hpl
end Clo
namespace Gk
/-! expressions, their words, and their places -/
inductive Ex where
  | none
  | empty
  | let_ (a : Int)
  | star (e : Ex)
  | join (e f : Ex)
  | alt (e f : Ex)
inductive Lg : Ex → List Int → Prop
  | empty : Lg .empty []
  | let_ (a : Int) : Lg (.let_ a) [a]
  | star0 (e : Ex) : Lg (.star e) []
  | starS {e : Ex} {u v : List Int} : Lg e u → Lg (.star e) v → Lg (.star e) (u ++ v)
  | join {e f : Ex} {u v : List Int} : Lg e u → Lg f v → Lg (.join e f) (u ++ v)
  | altL {e f : Ex} {u : List Int} : Lg e u → Lg (.alt e f) u
  | altR {e f : Ex} {u : List Int} : Lg f u → Lg (.alt e f) u
def nul : Ex → Bool
  | .none => false
  | .empty => true
  | .let_ _ => false
  | .star _ => true
  | .join e f => nul e && nul f
  | .alt e f => nul e || nul f
theorem nul_of {e : Ex} {w : List Int} (h : Lg e w) : w = [] → nul e = true := by
  induction h with
  | empty => intro _; rfl
  | let_ a => intro h; cases h
  | star0 e => intro _; rfl
  | starS _ _ _ _ => intro _; rfl
  | join h1 h2 i1 i2 =>
    intro h
    have := List.append_eq_nil_iff.mp h
    show (nul _ && nul _) = true
    rw [i1 this.1, i2 this.2]; rfl
  | altL _ ih => intro h; show (nul _ || nul _) = true; rw [ih h]; rfl
  | altR _ ih => intro h; show (nul _ || nul _) = true; rw [ih h, Bool.or_true]
theorem of_nul : ∀ {e : Ex}, nul e = true → Lg e []
  | .none, h => by cases h
  | .empty, _ => .empty
  | .let_ _, h => by cases h
  | .star e, _ => .star0 e
  | .join e f, h => by
    have h : (nul e && nul f) = true := h
    rw [Bool.and_eq_true] at h
    exact .join (u := []) (v := []) (of_nul h.1) (of_nul h.2)
  | .alt e f, h => by
    have h : (nul e || nul f) = true := h
    rw [Bool.or_eq_true] at h
    rcases h with h | h
    · exact .altL (of_nul h)
    · exact .altR (of_nul h)
def lt : Ex → List Int
  | .none => []
  | .empty => []
  | .let_ a => [a]
  | .star e => lt e
  | .join e f => lt e ++ lt f
  | .alt e f => lt e ++ lt f
def np (e : Ex) : Nat := (lt e).length
def fs : Ex → Nat → Bool
  | .none, _ => false
  | .empty, _ => false
  | .let_ _, i => decide (i = 0)
  | .star e, i => fs e i
  | .join e f, i => fs e i || (nul e && (decide (np e ≤ i) && fs f (i - np e)))
  | .alt e f, i => fs e i || (decide (np e ≤ i) && fs f (i - np e))
def la : Ex → Nat → Bool
  | .none, _ => false
  | .empty, _ => false
  | .let_ _, i => decide (i = 0)
  | .star e, i => la e i
  | .join e f, i => (decide (np e ≤ i) && la f (i - np e)) || (nul f && la e i)
  | .alt e f, i => la e i || (decide (np e ≤ i) && la f (i - np e))
def fo : Ex → Nat → Nat → Bool
  | .none, _, _ => false
  | .empty, _, _ => false
  | .let_ _, _, _ => false
  | .star e, i, j => fo e i j || (la e i && fs e j)
  | .join e f, i, j => (fo e i j || (decide (np e ≤ i ∧ np e ≤ j) && fo f (i - np e) (j - np e))) || (la e i && (decide (np e ≤ j) && fs f (j - np e)))
  | .alt e f, i, j => fo e i j || (decide (np e ≤ i ∧ np e ≤ j) && fo f (i - np e) (j - np e))
theorem np_join (e f : Ex) : np (.join e f) = np e + np f := by unfold np; show (lt e ++ lt f).length = _; rw [List.length_append]
theorem np_alt (e f : Ex) : np (.alt e f) = np e + np f := by unfold np; show (lt e ++ lt f).length = _; rw [List.length_append]
theorem fs_lt : ∀ {e : Ex} {i : Nat}, fs e i = true → i < np e
  | .none, _, h => by cases h
  | .empty, _, h => by cases h
  | .let_ _, i, h => by have := of_decide_eq_true h; subst this; exact Nat.zero_lt_one
  | .star e, i, h => fs_lt (e := e) h
  | .join e f, i, h => by
    have h : (fs e i || (nul e && (decide (np e ≤ i) && fs f (i - np e)))) = true := h
    rw [np_join]
    rw [Bool.or_eq_true, Bool.and_eq_true, Bool.and_eq_true, decide_eq_true_iff] at h
    rcases h with h | ⟨_, h1, h2⟩
    · have := fs_lt h; omega
    · have := fs_lt h2; omega
  | .alt e f, i, h => by
    have h : (fs e i || (decide (np e ≤ i) && fs f (i - np e))) = true := h
    rw [np_alt]
    rw [Bool.or_eq_true, Bool.and_eq_true, decide_eq_true_iff] at h
    rcases h with h | ⟨h1, h2⟩
    · have := fs_lt h; omega
    · have := fs_lt h2; omega
theorem la_lt : ∀ {e : Ex} {i : Nat}, la e i = true → i < np e
  | .none, _, h => by cases h
  | .empty, _, h => by cases h
  | .let_ _, i, h => by have := of_decide_eq_true h; subst this; exact Nat.zero_lt_one
  | .star e, i, h => la_lt (e := e) h
  | .join e f, i, h => by
    have h : ((decide (np e ≤ i) && la f (i - np e)) || (nul f && la e i)) = true := h
    rw [np_join]
    rw [Bool.or_eq_true, Bool.and_eq_true, Bool.and_eq_true, decide_eq_true_iff] at h
    rcases h with ⟨h1, h2⟩ | ⟨_, h⟩
    · have := la_lt h2; omega
    · have := la_lt h; omega
  | .alt e f, i, h => by
    have h : (la e i || (decide (np e ≤ i) && la f (i - np e))) = true := h
    rw [np_alt]
    rw [Bool.or_eq_true, Bool.and_eq_true, decide_eq_true_iff] at h
    rcases h with h | ⟨h1, h2⟩
    · have := la_lt h; omega
    · have := la_lt h2; omega
theorem fo_lt : ∀ {e : Ex} {i j : Nat}, fo e i j = true → i < np e ∧ j < np e
  | .none, _, _, h => by cases h
  | .empty, _, _, h => by cases h
  | .let_ _, _, _, h => by cases h
  | .star e, i, j, h => by
    have h : (fo e i j || (la e i && fs e j)) = true := h
    rw [Bool.or_eq_true, Bool.and_eq_true] at h
    rcases h with h | ⟨h1, h2⟩
    · exact fo_lt (e := e) h
    · exact ⟨la_lt (e := e) h1, fs_lt (e := e) h2⟩
  | .join e f, i, j, h => by
    have h : ((fo e i j || (decide (np e ≤ i ∧ np e ≤ j) && fo f (i - np e) (j - np e))) || (la e i && (decide (np e ≤ j) && fs f (j - np e)))) = true := h
    rw [np_join]
    rw [Bool.or_eq_true, Bool.or_eq_true, Bool.and_eq_true, Bool.and_eq_true, Bool.and_eq_true, decide_eq_true_iff, decide_eq_true_iff] at h
    rcases h with (h | ⟨h1, h2⟩) | ⟨h1, h2, h3⟩
    · have := fo_lt h; omega
    · have := fo_lt h2; omega
    · have a := la_lt h1; have b := fs_lt h3; omega
  | .alt e f, i, j, h => by
    have h : (fo e i j || (decide (np e ≤ i ∧ np e ≤ j) && fo f (i - np e) (j - np e))) = true := h
    rw [np_alt]
    rw [Bool.or_eq_true, Bool.and_eq_true, decide_eq_true_iff] at h
    rcases h with h | ⟨h1, h2⟩
    · have := fo_lt h; omega
    · have := fo_lt h2; omega
/-- from a place that was read, reading on, to a place -/
inductive Wy (e : Ex) : Nat → List Int → Nat → Prop
  | nil (p : Nat) : Wy e p [] p
  | cons {p q r : Nat} {a : Int} {w : List Int} : fo e p q = true → (lt e)[q]? = some a → Wy e q w r → Wy e p (a :: w) r
theorem Wy.snoc {e : Ex} {p q r : Nat} {w : List Int} {a : Int} (h : Wy e p w q) (k : fo e q r = true) (l : (lt e)[r]? = some a) : Wy e p (w ++ [a]) r := by
  induction h with
  | nil p => exact .cons k l (.nil _)
  | cons x y _ ih => exact .cons x y (ih k)
theorem Wy.trans {e : Ex} {p q r : Nat} {w u : List Int} (h : Wy e p w q) (k : Wy e q u r) : Wy e p (w ++ u) r := by
  induction h with
  | nil p => exact k
  | cons x y _ ih => exact .cons x y (ih k)
/-- a word that is not empty, read from a first place to a last one -/
def Ac (e : Ex) (w : List Int) : Prop := ∃ a u p q, w = a :: u ∧ fs e p = true ∧ (lt e)[p]? = some a ∧ Wy e p u q ∧ la e q = true
theorem Ac.ne {e : Ex} {w : List Int} (h : Ac e w) : w ≠ [] := by
  obtain ⟨a, u, _, _, rfl, _⟩ := h
  exact fun z => by cases z
theorem b_or1 {a b : Bool} (h : a = true) : (a || b) = true := by rw [h]; rfl
theorem b_or2 {a b : Bool} (h : b = true) : (a || b) = true := by rw [h]; exact Bool.or_true a
theorem b_and {a b : Bool} (h : a = true) (k : b = true) : (a && b) = true := by rw [h, k]; rfl
theorem lt_star (e : Ex) : lt (.star e) = lt e := rfl
theorem wy_star {e : Ex} {p q : Nat} {w : List Int} (h : Wy e p w q) : Wy (.star e) p w q := by
  induction h with
  | nil p => exact .nil p
  | cons x y _ ih => exact .cons (b_or1 x) y ih
theorem getL {e f : Ex} {q : Nat} {a : Int} (h : (lt e)[q]? = some a) : (lt e ++ lt f)[q]? = some a := by
  rw [List.getElem?_append_left (List.getElem?_eq_some_iff.mp h).1]; exact h
theorem getR {e f : Ex} {q : Nat} {a : Int} (h : (lt f)[q]? = some a) : (lt e ++ lt f)[np e + q]? = some a := by
  unfold np
  rw [List.getElem?_append_right (Nat.le_add_right _ _), Nat.add_sub_cancel_left]; exact h
theorem wy_joinL {e f : Ex} {p q : Nat} {w : List Int} (h : Wy e p w q) : Wy (.join e f) p w q := by
  induction h with
  | nil p => exact .nil p
  | cons x y _ ih => exact .cons (b_or1 (b_or1 x)) (getL y) ih
theorem wy_joinR {e f : Ex} {p q : Nat} {w : List Int} (h : Wy f p w q) : Wy (.join e f) (np e + p) w (np e + q) := by
  induction h with
  | nil p => exact .nil _
  | cons x y _ ih => exact .cons (b_or1 (b_or2 (b_and (decide_eq_true ⟨Nat.le_add_right _ _, Nat.le_add_right _ _⟩) (by rw [Nat.add_sub_cancel_left, Nat.add_sub_cancel_left]; exact x)))) (getR y) ih
theorem wy_altL {e f : Ex} {p q : Nat} {w : List Int} (h : Wy e p w q) : Wy (.alt e f) p w q := by
  induction h with
  | nil p => exact .nil p
  | cons x y _ ih => exact .cons (b_or1 x) (getL y) ih
theorem wy_altR {e f : Ex} {p q : Nat} {w : List Int} (h : Wy f p w q) : Wy (.alt e f) (np e + p) w (np e + q) := by
  induction h with
  | nil p => exact .nil _
  | cons x y _ ih => exact .cons (b_or2 (b_and (decide_eq_true ⟨Nat.le_add_right _ _, Nat.le_add_right _ _⟩) (by rw [Nat.add_sub_cancel_left, Nat.add_sub_cancel_left]; exact x))) (getR y) ih
theorem ac_of {e : Ex} {w : List Int} (h : Lg e w) : w ≠ [] → Ac e w := by
  induction h with
  | empty => exact fun h => absurd rfl h
  | let_ a => exact fun _ => ⟨a, [], 0, 0, rfl, rfl, rfl, .nil 0, rfl⟩
  | star0 e => exact fun h => absurd rfl h
  | @starS e u v h1 h2 i1 i2 =>
    intro hne
    by_cases hu : u = []
    · subst hu
      exact i2 hne
    obtain ⟨a, u', p, q, rfl, k1, k2, k3, k4⟩ := i1 hu
    by_cases hv : v = []
    · subst hv
      rw [List.append_nil]
      exact ⟨a, u', p, q, rfl, k1, k2, wy_star k3, k4⟩
    obtain ⟨b, v', p', q', rfl, l1, l2, l3, l4⟩ := i2 hv
    exact ⟨a, u' ++ b :: v', p, q', rfl, k1, k2, (wy_star k3).trans (.cons (b_or2 (b_and k4 l1)) l2 l3), l4⟩
  | @join e f u v h1 h2 i1 i2 =>
    intro hne
    by_cases hu : u = []
    · subst hu
      obtain ⟨b, v', p', q', rfl, l1, l2, l3, l4⟩ := i2 (by simpa using hne)
      exact ⟨b, v', np e + p', np e + q', rfl, b_or2 (b_and (nul_of h1 rfl) (b_and (decide_eq_true (Nat.le_add_right _ _)) (by rw [Nat.add_sub_cancel_left]; exact l1))), getR l2, wy_joinR l3, b_or1 (b_and (decide_eq_true (Nat.le_add_right _ _)) (by rw [Nat.add_sub_cancel_left]; exact l4))⟩
    obtain ⟨a, u', p, q, rfl, k1, k2, k3, k4⟩ := i1 hu
    by_cases hv : v = []
    · subst hv
      rw [List.append_nil]
      exact ⟨a, u', p, q, rfl, b_or1 k1, getL k2, wy_joinL k3, b_or2 (b_and (nul_of h2 rfl) k4)⟩
    obtain ⟨b, v', p', q', rfl, l1, l2, l3, l4⟩ := i2 hv
    exact ⟨a, u' ++ b :: v', p, np e + q', rfl, b_or1 k1, getL k2, (wy_joinL k3).trans (.cons (b_or2 (b_and k4 (b_and (decide_eq_true (Nat.le_add_right _ _)) (by rw [Nat.add_sub_cancel_left]; exact l1)))) (getR l2) (wy_joinR l3)), b_or1 (b_and (decide_eq_true (Nat.le_add_right _ _)) (by rw [Nat.add_sub_cancel_left]; exact l4))⟩
  | @altL e f u h ih =>
    intro hne
    obtain ⟨a, u', p, q, rfl, k1, k2, k3, k4⟩ := ih hne
    exact ⟨a, u', p, q, rfl, b_or1 k1, getL k2, wy_altL k3, b_or1 k4⟩
  | @altR e f u h ih =>
    intro hne
    obtain ⟨a, u', p, q, rfl, k1, k2, k3, k4⟩ := ih hne
    exact ⟨a, u', np e + p, np e + q, rfl, b_or2 (b_and (decide_eq_true (Nat.le_add_right _ _)) (by rw [Nat.add_sub_cancel_left]; exact k1)), getR k2, wy_altR k3, b_or2 (b_and (decide_eq_true (Nat.le_add_right _ _)) (by rw [Nat.add_sub_cancel_left]; exact k4))⟩
/-- a way in a star, cut where it begins anew -/
theorem wy_cut {e : Ex} {p q : Nat} {w : List Int} (h : Wy (.star e) p w q) : la e q = true → ∃ u v p', w = u ++ v ∧ Wy e p u p' ∧ la e p' = true ∧ (v = [] ∨ Ac (.star e) v) := by
  induction h with
  | nil p => exact fun k => ⟨[], [], p, rfl, .nil p, k, .inl rfl⟩
  | @cons p q r a w x y z ih =>
    intro k
    have x : (fo e p q || (la e p && fs e q)) = true := x
    rw [Bool.or_eq_true, Bool.and_eq_true] at x
    rcases x with x | ⟨x1, x2⟩
    · obtain ⟨u, v, p', rfl, h1, h2, h3⟩ := ih k
      exact ⟨a :: u, v, p', rfl, .cons x y h1, h2, h3⟩
    · exact ⟨[], a :: w, p, rfl, .nil p, x1, .inr ⟨a, w, q, r, rfl, x2, y, z, k⟩⟩
/-- a way in a join that begins on the left -/
theorem wy_join_cut {e f : Ex} {p q : Nat} {w : List Int} (h : Wy (.join e f) p w q) : p < np e → (q < np e ∧ Wy e p w q) ∨ ∃ u v p' r b v', w = u ++ v ∧ Wy e p u p' ∧ la e p' = true ∧ v = b :: v' ∧ fs f r = true ∧ (lt f)[r]? = some b ∧ ∃ q', q = np e + q' ∧ Wy f r v' q' := by
  have right : ∀ {p q : Nat} {w : List Int}, Wy (.join e f) p w q → np e ≤ p → ∃ q', q = np e + q' ∧ Wy f (p - np e) w q' := by
    intro p q w h
    induction h with
    | nil p => exact fun hp => ⟨p - np e, by omega, .nil _⟩
    | @cons p q r a w x y z ih =>
      intro hp
      have x : ((fo e p q || (decide (np e ≤ p ∧ np e ≤ q) && fo f (p - np e) (q - np e))) || (la e p && (decide (np e ≤ q) && fs f (q - np e)))) = true := x
      rw [Bool.or_eq_true, Bool.or_eq_true, Bool.and_eq_true, Bool.and_eq_true, Bool.and_eq_true, decide_eq_true_iff, decide_eq_true_iff] at x
      rcases x with (x | ⟨x1, x2⟩) | ⟨x1, x2, x3⟩
      · have := fo_lt x; omega
      · obtain ⟨q', e1, h1⟩ := ih x1.2
        refine ⟨q', e1, .cons x2 ?_ h1⟩
        have y : (lt e ++ lt f)[q]? = some a := y
        rw [List.getElem?_append_right x1.2] at y
        exact y
      · have := la_lt x1; omega
  induction h with
  | nil p => exact fun hp => .inl ⟨hp, .nil p⟩
  | @cons p q r a w x y z ih =>
    intro hp
    have x : ((fo e p q || (decide (np e ≤ p ∧ np e ≤ q) && fo f (p - np e) (q - np e))) || (la e p && (decide (np e ≤ q) && fs f (q - np e)))) = true := x
    have y : (lt e ++ lt f)[q]? = some a := y
    rw [Bool.or_eq_true, Bool.or_eq_true, Bool.and_eq_true, Bool.and_eq_true, Bool.and_eq_true, decide_eq_true_iff, decide_eq_true_iff] at x
    rcases x with (x | ⟨x1, x2⟩) | ⟨x1, x2, x3⟩
    · have hq := (fo_lt x).2
      have y' : (lt e)[q]? = some a := by rw [List.getElem?_append_left hq] at y; exact y
      rcases ih hq with ⟨h1, h2⟩ | ⟨u, v, p', r', b, v', h1, h2, h3, h4⟩
      · exact .inl ⟨h1, .cons x y' h2⟩
      · exact .inr ⟨a :: u, v, p', r', b, v', by rw [h1]; rfl, .cons x y' h2, h3, h4⟩
    · omega
    · obtain ⟨q', e1, h1⟩ := right z x2
      rw [List.getElem?_append_right x2] at y
      exact .inr ⟨[], a :: w, p, q - np e, a, w, rfl, .nil p, x1, rfl, x3, y, q', e1, h1⟩
theorem wy_join_right {e f : Ex} {p q : Nat} {w : List Int} (h : Wy (.join e f) p w q) : np e ≤ p → ∃ q', q = np e + q' ∧ Wy f (p - np e) w q' := by
  induction h with
  | nil p => exact fun hp => ⟨p - np e, by omega, .nil _⟩
  | @cons p q r a w x y z ih =>
    intro hp
    have x : ((fo e p q || (decide (np e ≤ p ∧ np e ≤ q) && fo f (p - np e) (q - np e))) || (la e p && (decide (np e ≤ q) && fs f (q - np e)))) = true := x
    rw [Bool.or_eq_true, Bool.or_eq_true, Bool.and_eq_true, Bool.and_eq_true, Bool.and_eq_true, decide_eq_true_iff, decide_eq_true_iff] at x
    rcases x with (x | ⟨x1, x2⟩) | ⟨x1, x2, x3⟩
    · have := fo_lt x; omega
    · obtain ⟨q', e1, h1⟩ := ih x1.2
      refine ⟨q', e1, .cons x2 ?_ h1⟩
      have y : (lt e ++ lt f)[q]? = some a := y
      rw [List.getElem?_append_right x1.2] at y
      exact y
    · have := la_lt x1; omega
theorem wy_alt {e f : Ex} {p q : Nat} {w : List Int} (h : Wy (.alt e f) p w q) : (p < np e → q < np e ∧ Wy e p w q) ∧ (np e ≤ p → ∃ q', q = np e + q' ∧ Wy f (p - np e) w q') := by
  induction h with
  | nil p => exact ⟨fun h => ⟨h, .nil p⟩, fun h => ⟨p - np e, by omega, .nil _⟩⟩
  | @cons p q r a w x y z ih =>
    have x : (fo e p q || (decide (np e ≤ p ∧ np e ≤ q) && fo f (p - np e) (q - np e))) = true := x
    have y : (lt e ++ lt f)[q]? = some a := y
    rw [Bool.or_eq_true, Bool.and_eq_true, decide_eq_true_iff] at x
    constructor
    · intro hp
      rcases x with x | ⟨x1, _⟩
      · have hq := (fo_lt x).2
        obtain ⟨h1, h2⟩ := ih.1 hq
        refine ⟨h1, .cons x ?_ h2⟩
        rw [List.getElem?_append_left hq] at y
        exact y
      · omega
    · intro hp
      rcases x with x | ⟨x1, x2⟩
      · have := (fo_lt x).1; omega
      · obtain ⟨q', e1, h1⟩ := ih.2 x1.2
        refine ⟨q', e1, .cons x2 ?_ h1⟩
        rw [List.getElem?_append_right x1.2] at y
        exact y
theorem of_ac : ∀ {e : Ex} {w : List Int}, Ac e w → Lg e w
  | .none, w, ⟨_, _, _, _, _, h, _⟩ => by cases h
  | .empty, w, ⟨_, _, _, _, _, h, _⟩ => by cases h
  | .let_ b, w, ⟨a, u, p, q, e1, h1, h2, h3, h4⟩ => by
    have h1 := of_decide_eq_true h1
    subst h1
    have : b = a := Option.some.inj h2
    subst this
    cases h3 with
    | nil _ => rw [e1]; exact .let_ b
    | cons x _ _ => cases x
  | .star e, w, h => by
    have key : ∀ n, ∀ w : List Int, w.length ≤ n → Ac (.star e) w → Lg (.star e) w := by
      intro n
      induction n with
      | zero =>
        rintro w hw ⟨a, u, p, q, rfl, _⟩
        simp at hw
      | succ n ih =>
        rintro w hw ⟨a, u, p, q, rfl, h1, h2, h3, h4⟩
        obtain ⟨u1, v, p', rfl, k1, k2, k3⟩ := wy_cut h3 h4
        have l1 : Lg e (a :: u1) := of_ac ⟨a, u1, p, p', rfl, h1, h2, k1, k2⟩
        have : Lg (.star e) v := by
          rcases k3 with rfl | k3
          · exact .star0 e
          · refine ih v ?_ k3
            simp only [List.length_cons, List.length_append] at hw
            omega
        exact .starS (u := a :: u1) l1 this
    exact key _ w (Nat.le_refl _) h
  | .join e f, w, ⟨a, u, p, q, e1, h1, h2, h3, h4⟩ => by
    have h1 : (fs e p || (nul e && (decide (np e ≤ p) && fs f (p - np e)))) = true := h1
    have h2 : (lt e ++ lt f)[p]? = some a := h2
    have h4 : ((decide (np e ≤ q) && la f (q - np e)) || (nul f && la e q)) = true := h4
    rw [Bool.or_eq_true, Bool.and_eq_true, Bool.and_eq_true, decide_eq_true_iff] at h1 h4
    subst e1
    rcases h1 with h1 | ⟨n1, n2, n3⟩
    · have hp := fs_lt h1
      rw [List.getElem?_append_left hp] at h2
      rcases wy_join_cut h3 hp with ⟨hq, k⟩ | ⟨u1, v, p', r, b, v', rfl, k1, k2, rfl, k4, k5, q', rfl, k6⟩
      · rcases h4 with ⟨h4, _⟩ | ⟨h4, h5⟩
        · omega
        · have := Lg.join (of_ac (e := e) ⟨a, u, p, q, rfl, h1, h2, k, h5⟩) (of_nul h4)
          rwa [List.append_nil] at this
      · rcases h4 with ⟨_, h4⟩ | ⟨_, h4⟩
        · rw [Nat.add_sub_cancel_left] at h4
          exact Lg.join (u := a :: u1) (of_ac ⟨a, u1, p, p', rfl, h1, h2, k1, k2⟩) (of_ac ⟨b, v', r, q', rfl, k4, k5, k6, h4⟩)
        · have := la_lt h4; omega
    · obtain ⟨q', rfl, k⟩ := wy_join_right h3 n2
      rw [List.getElem?_append_right n2] at h2
      rcases h4 with ⟨_, h4⟩ | ⟨_, h4⟩
      · rw [Nat.add_sub_cancel_left] at h4
        exact Lg.join (u := []) (of_nul n1) (of_ac ⟨a, u, p - np e, q', rfl, n3, h2, k, h4⟩)
      · have := la_lt h4; omega
  | .alt e f, w, ⟨a, u, p, q, e1, h1, h2, h3, h4⟩ => by
    have h1 : (fs e p || (decide (np e ≤ p) && fs f (p - np e))) = true := h1
    have h2 : (lt e ++ lt f)[p]? = some a := h2
    have h4 : (la e q || (decide (np e ≤ q) && la f (q - np e))) = true := h4
    rw [Bool.or_eq_true, Bool.and_eq_true, decide_eq_true_iff] at h1 h4
    subst e1
    rcases h1 with h1 | ⟨n2, n3⟩
    · have hp := fs_lt h1
      rw [List.getElem?_append_left hp] at h2
      obtain ⟨hq, k⟩ := (wy_alt h3).1 hp
      rcases h4 with h4 | ⟨h4, _⟩
      · exact .altL (of_ac ⟨a, u, p, q, rfl, h1, h2, k, h4⟩)
      · omega
    · obtain ⟨q', rfl, k⟩ := (wy_alt h3).2 n2
      rw [List.getElem?_append_right n2] at h2
      rcases h4 with h4 | ⟨_, h4⟩
      · have := la_lt h4; omega
      · rw [Nat.add_sub_cancel_left] at h4
        exact .altR (of_ac ⟨a, u, p - np e, q', rfl, n3, h2, k, h4⟩)
theorem lg_iff {e : Ex} {w : List Int} : Lg e w ↔ (w = [] ∧ nul e = true) ∨ Ac e w := by
  constructor
  · intro h
    by_cases hw : w = []
    · exact .inl ⟨hw, nul_of h hw⟩
    · exact .inr (ac_of h hw)
  · rintro (⟨rfl, h⟩ | h)
    · exact of_nul h
    · exact of_ac h
end Gk
namespace Mk
/-! masks: the lowest bit -/
theorem odd_split : ∀ (n m : Nat), m ≤ n → 0 < m → ∃ k q, m = 2 ^ k * (2 * q + 1)
  | 0, m, h, h0 => by omega
  | n + 1, m, h, h0 => by
    rcases Nat.mod_two_eq_zero_or_one m with e | e
    · obtain ⟨k, q, h1⟩ := odd_split n (m / 2) (by omega) (by omega)
      refine ⟨k + 1, q, ?_⟩
      rw [Nat.pow_succ, Nat.mul_comm (2 ^ k) 2, Nat.mul_assoc, ← h1]
      omega
    · exact ⟨0, m / 2, by rw [Nat.pow_zero, Nat.one_mul]; omega⟩
theorem tb_mul {k a : Nat} (j : Nat) : (2 ^ k * a).testBit j = (decide (k ≤ j) && a.testBit (j - k)) := by
  rw [Nat.testBit_two_pow_mul]
theorem tb_odd (q j : Nat) : (2 * q + 1).testBit j = (decide (j = 0) || (2 * q).testBit j) := by
  cases j with
  | zero => simp
  | succ j => simp [Nat.testBit_succ]; rw [show (2 * q + 1) / 2 = q by omega]
theorem tb_even0 (q : Nat) : (2 * q).testBit 0 = false := by simp
theorem low {m : Nat} (h : 0 < m) : ∃ k, m.testBit k = true ∧ m - (m &&& (m - 1)) = 2 ^ k ∧ m ^^^ 2 ^ k = m &&& (m - 1) ∧ (m &&& (m - 1)) < m ∧ (∀ i, (m &&& (m - 1)).testBit i = (m.testBit i && !decide (i = k))) ∧ ∀ i, m.testBit i = true → k ≤ i := by
  obtain ⟨k, q, rfl⟩ := odd_split m m (Nat.le_refl _) h
  have hp : 0 < 2 ^ k := Nat.two_pow_pos k
  have e1 : 2 ^ k * (2 * q + 1) - 1 = 2 ^ k * (2 * q) + (2 ^ k - 1) := by rw [Nat.mul_add, Nat.mul_one]; omega
  have band : (2 ^ k * (2 * q + 1)) &&& (2 ^ k * (2 * q + 1) - 1) = 2 ^ k * (2 * q) := by
    refine Nat.eq_of_testBit_eq fun j => ?_
    rw [Nat.testBit_and, e1, Nat.testBit_two_pow_mul_add _ (by omega), tb_mul, tb_mul, tb_odd]
    by_cases hj : j < k
    · rw [if_pos hj, decide_eq_false (by omega)]
      rfl
    · rw [if_neg hj, decide_eq_true (by omega)]
      by_cases h0 : j - k = 0
      · rw [h0, tb_even0]; rfl
      · rw [decide_eq_false h0]
        cases (2 * q).testBit (j - k) <;> rfl
  have tbm : ∀ i, (2 ^ k * (2 * q + 1)).testBit i = (decide (i = k) || (2 ^ k * (2 * q)).testBit i) := fun i => by
    rw [tb_mul, tb_mul, tb_odd]
    by_cases hi : k ≤ i
    · rw [decide_eq_true hi]
      by_cases e : i = k
      · rw [decide_eq_true e, decide_eq_true (by omega : i - k = 0)]; rfl
      · rw [decide_eq_false e, decide_eq_false (by omega : ¬ i - k = 0)]; rfl
    · rw [decide_eq_false hi, decide_eq_false (by omega : ¬ i = k)]; rfl
  have tb0 : (2 ^ k * (2 * q)).testBit k = false := by rw [tb_mul, Nat.sub_self, tb_even0, Bool.and_false]
  refine ⟨k, ?_, ?_, ?_, ?_, fun i => ?_, fun i hi => ?_⟩
  · rw [tbm, decide_eq_true rfl]; rfl
  · rw [band, Nat.mul_add, Nat.mul_one]; omega
  · rw [band]
    refine Nat.eq_of_testBit_eq fun j => ?_
    rw [Nat.testBit_xor, tbm, Nat.testBit_two_pow]
    by_cases e : j = k
    · subst e
      rw [tb0, decide_eq_true rfl]; rfl
    · rw [decide_eq_false e, decide_eq_false (fun z => e z.symm)]
      cases (2 ^ k * (2 * q)).testBit j <;> rfl
  · rw [band, Nat.mul_add, Nat.mul_one]; omega
  · rw [band, tbm]
    by_cases e : i = k
    · subst e
      rw [tb0, decide_eq_true rfl]; rfl
    · rw [decide_eq_false e]
      cases (2 ^ k * (2 * q)).testBit i <;> rfl
  · rw [tb_mul, Bool.and_eq_true, decide_eq_true_iff] at hi
    exact hi.1
theorem zero_of {m : Nat} (h : ∀ i, m.testBit i = false) : m = 0 := Nat.eq_of_testBit_eq fun i => by rw [h i, Nat.zero_testBit]
theorem lt_of_bits {m n : Nat} (h : ∀ i, m.testBit i = true → i < n) : m < 2 ^ n := by
  refine Nat.lt_pow_two_of_testBit m fun i hi => ?_
  cases e : m.testBit i with
  | false => rfl
  | true => have := h i e; omega
end Mk
namespace Gk
/-! the relation between places of a word that goes round -/
/-- the place behind a place -/
def af (n back k : Nat) : Nat := if k + 1 = n then back else k + 1
/-- the place m turns later -/
def pl (n back : Nat) : Nat → Nat → Nat
  | j, 0 => j
  | j, m + 1 => pl n back (af n back j) m
/-- the m letters from a place on -/
def wd (ls : List Int) (back : Nat) : Nat → Nat → List Int
  | _, 0 => []
  | j, m + 1 => ls.getD j 0 :: wd ls back (af ls.length back j) m
theorem wd_len (ls : List Int) (back : Nat) : ∀ (m j : Nat), (wd ls back j m).length = m
  | 0, _ => rfl
  | m + 1, j => by show (wd _ _ _ m).length + 1 = _; rw [wd_len ls back m]
theorem pl_add (n back : Nat) : ∀ (m k j : Nat), pl n back j (m + k) = pl n back (pl n back j m) k
  | 0, k, j => by rw [Nat.zero_add]; rfl
  | m + 1, k, j => by rw [Nat.succ_add]; exact pl_add n back m k _
theorem wd_add (ls : List Int) (back : Nat) : ∀ (m k j : Nat), wd ls back j (m + k) = wd ls back j m ++ wd ls back (pl ls.length back j m) k
  | 0, k, j => by rw [Nat.zero_add]; rfl
  | m + 1, k, j => by
    rw [Nat.succ_add]
    show ls.getD j 0 :: wd ls back _ (m + k) = ls.getD j 0 :: (_ ++ _)
    rw [wd_add ls back m k]
    rfl
theorem pl_lt {n back : Nat} (hb : back < n) : ∀ (m j : Nat), j < n → pl n back j m < n
  | 0, j, h => h
  | m + 1, j, h => pl_lt hb m _ (by unfold af; split <;> omega)
/-- some word of e, not empty, leads from place j to place k -/
def St (ls : List Int) (back : Nat) (e : Ex) (j k : Nat) : Prop := ∃ m, 1 ≤ m ∧ pl ls.length back j m = k ∧ Lg e (wd ls back j m)
section
variable {ls : List Int} {back : Nat}
theorem st_none (j k : Nat) : ¬ St ls back .none j k := fun ⟨m, h1, _, h⟩ => by cases h
theorem st_empty (j k : Nat) : ¬ St ls back .empty j k := fun ⟨m, h1, _, h⟩ => by
  generalize e : wd ls back j m = w at h
  cases h with
  | empty => have := congrArg List.length e; rw [wd_len] at this; simp at this; omega
theorem st_let {a : Int} {j k : Nat} : St ls back (.let_ a) j k ↔ k = af ls.length back j ∧ ls.getD j 0 = a := by
  constructor
  · rintro ⟨m, h1, h2, h⟩
    generalize e : wd ls back j m = w at h
    cases h with
    | let_ _ =>
      have := congrArg List.length e
      rw [wd_len] at this
      have : m = 1 := this
      subst this
      exact ⟨h2.symm, (List.cons.inj e).1⟩
  · rintro ⟨rfl, rfl⟩
    exact ⟨1, Nat.le_refl 1, rfl, .let_ _⟩
theorem st_alt {e f : Ex} {j k : Nat} : St ls back (.alt e f) j k ↔ St ls back e j k ∨ St ls back f j k := by
  constructor
  · rintro ⟨m, h1, h2, h⟩
    cases h with
    | altL h => exact .inl ⟨m, h1, h2, h⟩
    | altR h => exact .inr ⟨m, h1, h2, h⟩
  · rintro (⟨m, h1, h2, h⟩ | ⟨m, h1, h2, h⟩)
    · exact ⟨m, h1, h2, .altL h⟩
    · exact ⟨m, h1, h2, .altR h⟩
theorem wd_split {j m : Nat} {u v : List Int} (h : wd ls back j m = u ++ v) : u = wd ls back j u.length ∧ v = wd ls back (pl ls.length back j u.length) v.length ∧ m = u.length + v.length := by
  have hl := congrArg List.length h
  rw [wd_len, List.length_append] at hl
  rw [hl, wd_add] at h
  have := List.append_inj h (wd_len _ _ _ _)
  exact ⟨this.1.symm, this.2.symm, hl⟩
theorem st_join {e f : Ex} {j k : Nat} : St ls back (.join e f) j k ↔ (∃ i, St ls back e j i ∧ St ls back f i k) ∨ (nul e = true ∧ St ls back f j k) ∨ (nul f = true ∧ St ls back e j k) := by
  constructor
  · rintro ⟨m, h1, h2, h⟩
    generalize e1 : wd ls back j m = w at h
    cases h with
    | @join _ _ u v hu hv =>
      obtain ⟨eu, ev, em⟩ := wd_split e1
      by_cases cu : u = []
      · subst cu
        refine .inr (.inl ⟨nul_of hu rfl, v.length, ?_, ?_, ?_⟩)
        · simp at em; omega
        · have : m = v.length := by simpa using em
          rw [← this]; exact h2
        · rw [ev] at hv; exact hv
      by_cases cv : v = []
      · subst cv
        have : m = u.length := by simpa using em
        refine .inr (.inr ⟨nul_of hv rfl, u.length, by omega, by rw [← this]; exact h2, by rw [← eu]; exact hu⟩)
      · refine .inl ⟨pl ls.length back j u.length, ⟨u.length, List.length_pos_iff.mpr cu, rfl, by rw [← eu]; exact hu⟩, v.length, List.length_pos_iff.mpr cv, ?_, by rw [← ev]; exact hv⟩
        rw [← pl_add, ← em]; exact h2
  · rintro (⟨i, ⟨m1, h1, h2, h3⟩, ⟨m2, k1, k2, k3⟩⟩ | ⟨n, m, h1, h2, h3⟩ | ⟨n, m, h1, h2, h3⟩)
    · subst h2
      exact ⟨m1 + m2, by omega, by rw [pl_add]; exact k2, by rw [wd_add]; exact .join h3 k3⟩
    · exact ⟨m, h1, h2, .join (u := []) (of_nul n) h3⟩
    · refine ⟨m, h1, h2, ?_⟩
      have := Lg.join h3 (of_nul n)
      rwa [List.append_nil] at this
/-- one step or more -/
inductive Tc (R : Nat → Nat → Prop) : Nat → Nat → Prop
  | one {j k : Nat} : R j k → Tc R j k
  | more {j i k : Nat} : R j i → Tc R i k → Tc R j k
theorem Tc.trans {R : Nat → Nat → Prop} {j i k : Nat} (h : Tc R j i) (g : Tc R i k) : Tc R j k := by
  induction h with
  | one h => exact .more h g
  | more h _ ih => exact .more h (ih g)
theorem st_star {e : Ex} {j k : Nat} : St ls back (.star e) j k ↔ Tc (St ls back e) j k := by
  constructor
  · rintro ⟨m, h1, h2, h⟩
    have key : ∀ {w : List Int}, Lg (.star e) w → ∀ j, w = wd ls back j w.length → w ≠ [] → Tc (St ls back e) j (pl ls.length back j w.length) := by
      intro w h
      generalize e1 : Ex.star e = x at h
      induction h with
      | star0 _ => exact fun j _ h => absurd rfl h
      | @starS e' u v hu hv i1 i2 =>
        cases e1
        intro j hw hne
        obtain ⟨eu, ev, em⟩ := wd_split (m := (u ++ v).length) hw.symm
        by_cases cu : u = []
        · subst cu
          exact i2 rfl j hw hne
        have s1 : St ls back e j (pl ls.length back j u.length) := ⟨u.length, List.length_pos_iff.mpr cu, rfl, by rw [← eu]; exact hu⟩
        by_cases cv : v = []
        · subst cv
          rw [List.append_nil]
          exact .one s1
        · rw [List.length_append, pl_add]
          exact .more s1 (i2 rfl _ ev cv)
      | empty => cases e1
      | let_ _ => cases e1
      | join _ _ _ _ => cases e1
      | altL _ _ => cases e1
      | altR _ _ => cases e1
    have := key h j (by rw [wd_len]) (by intro z; have := congrArg List.length z; rw [wd_len] at this; simp at this; omega)
    rw [wd_len, h2] at this
    exact this
  · intro h
    induction h with
    | one h =>
      obtain ⟨m, h1, h2, h3⟩ := h
      refine ⟨m, h1, h2, ?_⟩
      have := Lg.starS h3 (.star0 e)
      rwa [List.append_nil] at this
    | more h _ ih =>
      obtain ⟨m1, h1, h2, h3⟩ := h
      obtain ⟨m2, k1, k2, k3⟩ := ih
      subst h2
      exact ⟨m1 + m2, by omega, by rw [pl_add]; exact k2, by rw [wd_add]; exact .starS h3 k3⟩
end
/-- up to t + 1 steps -/
def Up (R : Nat → Nat → Prop) : Nat → Nat → Nat → Prop
  | 0, j, k => R j k
  | t + 1, j, k => Up R t j k ∨ ∃ i, Up R t j i ∧ R i k
theorem up_tc {R : Nat → Nat → Prop} : ∀ {t j k : Nat}, Up R t j k → Tc R j k
  | 0, _, _, h => .one h
  | t + 1, _, _, h => by
    rcases h with h | ⟨i, h1, h2⟩
    · exact up_tc h
    · exact (up_tc h1).trans (.one h2)
theorem up_mono {R : Nat → Nat → Prop} {t j k : Nat} (h : Up R t j k) : ∀ d, Up R (t + d) j k
  | 0 => h
  | d + 1 => .inl (up_mono h d)
/-- a walk with d steps -/
def Wa (R : Nat → Nat → Prop) (f : Nat → Nat) (d : Nat) : Prop := ∀ i, i < d → R (f i) (f (i + 1))
theorem up_wa {R : Nat → Nat → Prop} {f : Nat → Nat} : ∀ d, Wa R f (d + 1) → Up R d (f 0) (f (d + 1))
  | 0, h => h 0 (Nat.lt_succ_self _)
  | d + 1, h => .inr ⟨f (d + 1), up_wa d (fun i hi => h i (by omega)), h (d + 1) (by omega)⟩
theorem tc_wa {R : Nat → Nat → Prop} {j k : Nat} (h : Tc R j k) : ∃ f d, Wa R f (d + 1) ∧ f 0 = j ∧ f (d + 1) = k := by
  induction h with
  | @one j k h => exact ⟨fun i => if i = 0 then j else k, 0, fun i hi => by have : i = 0 := by omega
                                                                            subst this; exact h, rfl, rfl⟩
  | @more j i k h _ ih =>
    obtain ⟨f, d, h1, h2, h3⟩ := ih
    refine ⟨fun i => match i with | 0 => j | i + 1 => f i, d + 1, fun i hi => ?_, rfl, h3⟩
    cases i with
    | zero => show R j (f 0); rw [h2]; exact h
    | succ i => exact h1 i (by omega)
end Gk
namespace Gk
theorem wa_short {R : Nat → Nat → Prop} {n : Nat} (hR : ∀ a b, R a b → a < n ∧ b < n) : ∀ (N d : Nat) (f : Nat → Nat), d ≤ N → Wa R f (d + 1) → ∃ g d', d' ≤ n ∧ Wa R g (d' + 1) ∧ g 0 = f 0 ∧ g (d' + 1) = f (d + 1)
  | 0, d, f, h, w => ⟨f, d, by omega, w, rfl, rfl⟩
  | N + 1, d, f, h, w => by
    by_cases hd : d ≤ n
    · exact ⟨f, d, hd, w, rfl, rfl⟩
    obtain ⟨i, j, hij, hj, e⟩ := Lv.pigeon (n := n) (f := f) fun k hk => (hR _ _ (w k (by omega))).1
    let g : Nat → Nat := fun x => if x ≤ i then f x else f (x + (j - i))
    have g1 : ∀ x, x ≤ i → g x = f x := fun x hx => if_pos hx
    have g2 : ∀ x, ¬ x ≤ i → g x = f (x + (j - i)) := fun x hx => if_neg hx
    have wg : Wa R g ((d - (j - i)) + 1) := fun x hx => by
      by_cases c : x + 1 ≤ i
      · rw [g1 x (by omega), g1 (x + 1) c]; exact w x (by omega)
      by_cases c2 : x ≤ i
      · have : x = i := by omega
        subst this
        rw [g1 x c2, g2 (x + 1) c, e, show x + 1 + (j - x) = j + 1 by omega]
        exact w j (by omega)
      · rw [g2 x c2, g2 (x + 1) c, show x + 1 + (j - i) = x + (j - i) + 1 by omega]
        exact w _ (by omega)
    obtain ⟨g', d', h1, h2, h3, h4⟩ := wa_short hR N (d - (j - i)) g (by omega) wg
    refine ⟨g', d', h1, h2, by rw [h3, g1 0 (Nat.zero_le _)], ?_⟩
    rw [h4, g2 _ (by omega)]
    congr 1
    omega
theorem tc_up {R : Nat → Nat → Prop} {n : Nat} (hR : ∀ a b, R a b → a < n ∧ b < n) {j k : Nat} : Tc R j k ↔ Up R n j k := by
  constructor
  · intro h
    obtain ⟨f, d, h1, h2, h3⟩ := tc_wa h
    obtain ⟨g, d', k1, k2, k3, k4⟩ := wa_short hR d d f (Nat.le_refl _) h1
    have := up_mono (up_wa d' k2) (n - d')
    rw [k3, k4, h2, h3, show d' + (n - d') = n by omega] at this
    exact this
  · exact up_tc
end Gk
namespace Bx
open PySem PySem.Spec PyProof.Rows L2
theorem bitand_neg {m : Nat} (h : 0 < m) : Builtin.bitAnd (m : Int) (-(m : Int)) = ((m - (m &&& (m - 1)) : Nat) : Int) := by
  unfold Builtin.bitAnd Builtin.bitNot
  rw [decide_eq_true (show (0 : Int) ≤ (m : Int) by omega), decide_eq_false (show ¬ (0 : Int) ≤ -(m : Int) by omega)]
  show (m : Int) - (((m : Int).toNat &&& (- -(m : Int) - 1).toNat : Nat) : Int) = _
  have e : (- -(m : Int) - 1).toNat = m - 1 := by omega
  rw [e, Int.toNat_natCast]
  have : m &&& (m - 1) ≤ m := Nat.and_le_left
  omega
theorem bits_pow (k : Nat) : Builtin.Int.intBits ((2 ^ k : Nat) : Int) = k + 1 := by
  unfold Builtin.Int.intBits
  have h : 0 < 2 ^ k := Nat.two_pow_pos k
  rw [if_neg (by rw [beq_iff_eq]; omega)]
  show Nat.log2 (Int.natAbs ((2 ^ k : Nat) : Int)) + 1 = k + 1
  rw [Int.natAbs_natCast, Nat.log2_two_pow]
theorem bor_nat (a b : Nat) : Builtin.bitOr (a : Int) (b : Int) = ((a ||| b : Nat) : Int) := by
  have := Bits.bitOr_pp (x := (a : Int)) (y := (b : Int)) (by omega) (by omega)
  rwa [Int.toNat_natCast, Int.toNat_natCast] at this
theorem bxor_nat (a b : Nat) : Builtin.bitXor (a : Int) (b : Int) = ((a ^^^ b : Nat) : Int) := by
  have := Bits.bitXor_pp (x := (a : Int)) (y := (b : Int)) (by omega) (by omega)
  rwa [Int.toNat_natCast, Int.toNat_natCast] at this
theorem band_nat (a b : Nat) : Builtin.bitAnd (a : Int) (b : Int) = ((a &&& b : Nat) : Int) := by
  have := PyProof.Rows.bitAnd_pp (x := (a : Int)) (y := (b : Int)) (by omega) (by omega)
  rwa [Int.toNat_natCast, Int.toNat_natCast] at this
/-- the class of the places of an expression -/
structure PosC (K : PySem.W.Frag) (C : Addr) : Prop where
  cl : Cls K C
  nl : NoAttr K C "letters"
  nf : NoAttr K C "follows"
  n1 : NoAttr K C "first"
  n2 : NoAttr K C "last"
  n3 : NoAttr K C "nullable"
end Bx
namespace Bx
open PySem PySem.Spec PyProof.Rows L2
/-- the class of the pairs -/
structure EndC (K : PySem.W.Frag) (C : Addr) : Prop where
  cl : Cls K C
  nF : NoAttr K C "firsts"
  nS : NoAttr K C "seconds"
/-- a module's tuple of whole numbers -/
structure GloI (K : PySem.W.Frag) (mg : Str → Option Value) (x : Str) (ns : List Int) (a : Addr) : Prop where
  g : mg x = some (.ref a)
  q : ∀ H, SqT K H a (ns.map V.int)
end Bx
/-! dicts whose keys are tuples nested in tuples -/
namespace Dn2
open PySem PySem.Spec PyProof.Rows L2
theorem units65 {k : Nat} {A : Around} (h : Room k A) : A.units + 65 < cLine := by
  have := h.un
  omega
/-- a tuple: tracked, or an object of the module -/
def TupK (K : PySem.W.Frag) (H : Hp) (a : Addr) (vs : List V) : Prop := H a = some (.tup vs) ∨ ∃ (o : Obj) (its : Array Value) (n : Nat), K.lookup a = some o ∧ o.cls = .type "tuple" ∧ o.data = .seq its n ∧ its.size ≤ sizeLine ∧ Vals vs its.toList
theorem TupK.sq {K : PySem.W.Frag} {H : Hp} {a : Addr} {vs : List V} (h : TupK K H a vs) : SqT K H a vs := h.elim .of (fun h => .inr h)
theorem TupK.same {K : PySem.W.Frag} {H H' : Hp} {a : Addr} {vs : List V} (s : ∀ b xs, H b = some (.tup xs) → H' b = some (.tup xs)) (h : TupK K H a vs) : TupK K H' a vs := h.elim (fun h => .inl (s _ _ h)) (fun h => .inr h)
theorem TupK.is {P : Program} {w : World} {K : PySem.W.Frag} {H : Hp} {h : Heap} {a : Addr} {vs : List V} (kin : K.In h) (ok : HOk P w H h) (x : TupK K H a vs) : ∃ (its : List Value) (o : Obj) (n : Nat), Vals vs its ∧ h.get? a = some o ∧ o.cls = .type "tuple" ∧ o.data = .seq its.toArray n := by
  rcases x with x | ⟨o, its, n, h1, h2, h3, _, h5⟩
  · obtain ⟨_, its, rv, o, h1, h2, n, h3⟩ := (show ObjOk P w H _ a (.tup vs) from ok a _ x)
    exact ⟨its, o, n, rv, h1, h2, h3⟩
  · exact ⟨its.toList, o, n, h5, kin a o h1, h2, by simpa using h3⟩
mutual
/-- the value v is the key k, as far as the tuples of H tell -/
def NkV (K : PySem.W.Frag) (H : Hp) : NestedKey → V → Prop
  | .none, v => v = .non
  | .num i, v => v = .int i
  | .text x, v => v = .str x
  | .tup ks, v => ∃ (a : Addr) (vs : List V), v = .ref a ∧ TupK K H a vs ∧ NkA K H ks vs
def NkA (K : PySem.W.Frag) (H : Hp) : List NestedKey → List V → Prop
  | [], vs => vs = []
  | k :: ks, vs => ∃ v vs', vs = v :: vs' ∧ NkV K H k v ∧ NkA K H ks vs'
end
mutual
theorem NkV.same {K : PySem.W.Frag} {H H' : Hp} (s : ∀ b xs, H b = some (.tup xs) → H' b = some (.tup xs)) : ∀ (k : NestedKey) (v : V), NkV K H k v → NkV K H' k v
  | .none, _, h => by rw [NkV] at h ⊢; exact h
  | .num _, _, h => by rw [NkV] at h ⊢; exact h
  | .text _, _, h => by rw [NkV] at h ⊢; exact h
  | .tup ks, _, h => by
    rw [NkV] at h ⊢
    obtain ⟨a, vs, e1, e2, e3⟩ := h
    exact ⟨a, vs, e1, e2.same s, NkA.same s ks vs e3⟩
theorem NkA.same {K : PySem.W.Frag} {H H' : Hp} (s : ∀ b xs, H b = some (.tup xs) → H' b = some (.tup xs)) : ∀ (ks : List NestedKey) (vs : List V), NkA K H ks vs → NkA K H' ks vs
  | [], _, h => by rw [NkA] at h ⊢; exact h
  | k :: ks, _, h => by
    rw [NkA] at h ⊢
    obtain ⟨v, vs', e1, e2, e3⟩ := h
    exact ⟨v, vs', e1, NkV.same s k v e2, NkA.same s ks vs' e3⟩
end
mutual
theorem NkV.is {P : Program} {w : World} {K : PySem.W.Frag} {H : Hp} {h : Heap} (kin : K.In h) (ok : HOk P w H h) : ∀ (k : NestedKey) (v : V) (u : Value), NkV K H k v → RelV v u → NestedIs h k u
  | .none, _, u, h, r => by
    rw [NkV] at h
    subst h
    obtain rfl : u = Value.none := r
    exact .none
  | .num i, _, u, h, r => by
    rw [NkV] at h
    subst h
    obtain ⟨t, rfl⟩ := r
    exact .int _ _
  | .text x, _, u, h, r => by
    rw [NkV] at h
    subst h
    obtain ⟨t, rfl⟩ := r
    exact .text _ _
  | .tup ks, _, u, h, r => by
    rw [NkV] at h
    obtain ⟨a, vs, rfl, e2, e3⟩ := h
    obtain rfl : u = Value.ref a := r
    obtain ⟨its, o, n, rv, h1, h2, h3⟩ := e2.is kin ok
    exact .tup h1 h2 h3 (by simpa using NkA.is kin ok ks vs its e3 rv)
theorem NkA.is {P : Program} {w : World} {K : PySem.W.Frag} {H : Hp} {h : Heap} (kin : K.In h) (ok : HOk P w H h) : ∀ (ks : List NestedKey) (vs : List V) (us : List Value), NkA K H ks vs → Vals vs us → NestedAll h ks us
  | [], _, us, h, r => by
    rw [NkA] at h
    subst h
    cases r
    exact .nil
  | k :: ks, _, us, h, r => by
    rw [NkA] at h
    obtain ⟨v, vs', rfl, e2, e3⟩ := h
    cases r with
    | cons r1 r2 => exact .cons (NkV.is kin ok k _ _ e2 r1) (NkA.is kin ok ks _ _ e3 r2)
end
/-- the pairs as they lie: the key, the tuple that it is, the value -/
abbrev Ent := NestedKey × Addr × V
abbrev Raw := NestedKey × Addr × Value
def DNO (P : Program) (w : World) (d : Addr) (xs : List Raw) : HO := .ext fun h => xs.length ≤ sizeLine ∧ (d == sysModules) = false ∧ (xs.map (·.1)).Nodup ∧ ∃ o es ep, h.get? d = some o ∧ o.ExactDict ∧ o.data = .dict es ep ∧ es.toList = xs.map (entryOfKey (nestedKind P w))
def RelE (p : Ent) (q : Raw) : Prop := p.1 = q.1 ∧ p.2.1 = q.2.1 ∧ RelV p.2.2 q.2.2
/-- at d lies a dict with these pairs -/
structure DN (P : Program) (w : World) (K : PySem.W.Frag) (H : Hp) (d : Addr) (kvs : List Ent) : Prop where
  ex : ∃ xs : List Raw, H d = some (DNO P w d xs) ∧ Paired RelE kvs xs
  key : ∀ p ∈ kvs, NkV K H p.1 (.ref p.2.1) ∧ p.1.depth ≤ 8
def valN (kvs : List Ent) (k : NestedKey) : Option V := (kvs.find? fun p => decide (p.1 = k)).map (·.2.2)
def putN (kvs : List Ent) (k : NestedKey) (a : Addr) (v : V) : List Ent := if (valN kvs k).isSome then kvs.map (fun p => if p.1 = k then (p.1, p.2.1, v) else p) else kvs ++ [(k, a, v)]
theorem putN_new {kvs : List Ent} {k : NestedKey} (h : valN kvs k = none) (a : Addr) (v : V) : putN kvs k a v = kvs ++ [(k, a, v)] := by unfold putN; rw [h]; rfl
section
variable {P : Program} {w : World} {K : PySem.W.Frag} {H H' : Hp} {d : Addr} {kvs : List Ent} {xs : List Raw}
theorem DN.same (s : ∀ b o, H b = some o → H' b = some o) (h : DN P w K H d kvs) : DN P w K H' d kvs := by
  obtain ⟨⟨xs, e, r⟩, hk⟩ := h
  exact ⟨⟨xs, s _ _ e, r⟩, fun p hp => ⟨NkV.same (fun b xs e => s _ _ e) _ _ (hk p hp).1, (hk p hp).2⟩⟩
theorem DN.keep (hd : ∀ o, H d = some o → H' d = some o) (s : ∀ b xs, H b = some (.tup xs) → H' b = some (.tup xs)) (h : DN P w K H d kvs) : DN P w K H' d kvs := by
  obtain ⟨⟨xs, e, r⟩, hk⟩ := h
  exact ⟨⟨xs, hd _ e, r⟩, fun p hp => ⟨NkV.same s _ _ (hk p hp).1, (hk p hp).2⟩⟩
theorem rel_find (r : Paired RelE kvs xs) (k : NestedKey) : (valN kvs k = none ∧ atKey xs k = none) ∨ ∃ v q, valN kvs k = some v ∧ atKey xs k = some q ∧ RelV v q.2 := by
  induction r with
  | nil => exact .inl ⟨rfl, rfl⟩
  | @cons p q ps qs e t ih =>
    obtain ⟨e1, e2, e3⟩ := e
    unfold valN atKey
    rw [List.find?_cons, List.find?_cons]
    by_cases c : q.1 = k
    · rw [decide_eq_true (e1.trans c), decide_eq_true c]
      exact .inr ⟨_, _, rfl, rfl, e3⟩
    · rw [decide_eq_false (fun z => c (e1.symm.trans z)), decide_eq_false c]
      exact ih
theorem rel_len (r : Paired RelE kvs xs) : kvs.length = xs.length := by
  induction r with
  | nil => rfl
  | cons _ _ ih => rw [List.length_cons, List.length_cons, ih]
theorem rel_keys (r : Paired RelE kvs xs) : ∀ q ∈ xs, ∃ p ∈ kvs, p.1 = q.1 ∧ p.2.1 = q.2.1 := by
  induction r with
  | nil => intro q hq; cases hq
  | @cons p q ps qs e t ih =>
    intro z hz
    rcases List.mem_cons.mp hz with rfl | hz
    · exact ⟨p, List.mem_cons_self, e.1, e.2.1⟩
    · obtain ⟨p', h1, h2⟩ := ih z hz
      exact ⟨p', List.mem_cons_of_mem _ h1, h2⟩
theorem rel_snoc (r : Paired RelE kvs xs) {p : Ent} {q : Raw} (e : RelE p q) : Paired RelE (kvs ++ [p]) (xs ++ [q]) := by
  induction r with
  | nil => exact .cons e .nil
  | cons h _ ih => exact .cons h ih
theorem rel_repl (r : Paired RelE kvs xs) (k : NestedKey) {v : V} {u : Value} (e : RelV v u) : Paired RelE (kvs.map fun p => if p.1 = k then (p.1, p.2.1, v) else p) (xs.map (putAt k u)) := by
  induction r with
  | nil => exact .nil
  | @cons p q ps qs h _ ih =>
    refine .cons ?_ ih
    unfold putAt
    show RelE (if p.1 = k then (p.1, p.2.1, v) else p) _
    by_cases c : q.1 = k
    · rw [if_pos (h.1.trans c), if_pos c]
      exact ⟨h.1, h.2.1, e⟩
    · rw [if_neg (fun z => c (h.1.symm.trans z)), if_neg c]
      exact h
theorem rel_put (r : Paired RelE kvs xs) (k : NestedKey) (a : Addr) {v : V} {u : Value} (e : RelV v u) : Paired RelE (putN kvs k a v) (storedH xs k a u) := by
  unfold putN storedH
  rcases rel_find r k with ⟨h1, h2⟩ | ⟨v', q, h1, h2, _⟩
  · rw [h1, h2]
    exact rel_snoc r ⟨rfl, rfl, e⟩
  · rw [h1, h2]
    exact rel_repl r k e
theorem putN_len (k : NestedKey) (a : Addr) (v : V) : (putN kvs k a v).length ≤ kvs.length + 1 := by
  unfold putN
  split
  · rw [List.length_map]; omega
  · rw [List.length_append]; exact Nat.le_refl _
theorem putN_key (hk : ∀ p ∈ kvs, NkV K H p.1 (.ref p.2.1) ∧ p.1.depth ≤ 8) {k : NestedKey} {a : Addr} {v : V} (h : NkV K H k (.ref a)) (hd : k.depth ≤ 8) : ∀ p ∈ putN kvs k a v, NkV K H p.1 (.ref p.2.1) ∧ p.1.depth ≤ 8 := fun p hp => by
  unfold putN at hp
  split at hp
  · obtain ⟨q, hq, e⟩ := List.mem_map.mp hp
    have := hk q hq
    split at e <;> (subst e; exact this)
  · rcases List.mem_append.mp hp with z | z
    · exact hk p z
    · rw [List.mem_singleton.mp z]; exact ⟨h, hd⟩
end
section
variable {X : Cx} {pins : List (Addr × Obj)} {σ : L2.St} {H : Hp} {s : Shared} {d a : Addr} {kvs : List Ent} {xs : List Raw} {k : NestedKey} {P : Program} {w : World} {K : PySem.W.Frag}
theorem dn_heap {h : Heap} (kin : K.In h) (ok : HOk P w H h) (e : H d = some (DNO P w d xs)) (r : Paired RelE kvs xs) (hk : ∀ p ∈ kvs, NkV K H p.1 (.ref p.2.1) ∧ p.1.depth ≤ 8) : xs.length ≤ sizeLine ∧ (d == sysModules) = false ∧ h.DictOfH (nestedKind P w) d xs := by
  obtain ⟨⟨z, y, nd, o, es, ep, h1, h2, h3, h4⟩, _, _⟩ := (show ObjOk P w H h d (DNO P w d xs) from ok d _ e)
  refine ⟨z, y, o, es, ep, h1, h2, h3, h4, fun q hq => ?_, nd⟩
  obtain ⟨p, hp, e1, e2⟩ := rel_keys r q hq
  obtain ⟨k1, k2⟩ := hk p hp
  rw [e1, e2] at k1
  exact ⟨NkV.is kin ok _ _ _ k1 rfl, by rw [← e1]; exact k2⟩
theorem dno_ok {h : Heap} (z : xs.length ≤ sizeLine) (y : (d == sysModules) = false) (D : h.DictOfH (nestedKind P w) d xs) : ObjOk P w H h d (DNO P w d xs) := by
  obtain ⟨o, es, ep, h1, h2, h3, h4, _, nd⟩ := D
  refine ⟨⟨z, y, nd, o, es, ep, h1, h2, h3, h4⟩, ⟨o, h1⟩, fun g1 g2 ⟨z, y, nd, o, es, ep, e1, e2, e3, e4⟩ st => ⟨z, y, nd, o, es, ep, st _ e1, e2, e3, e4⟩⟩
theorem dno_new (h : Heap) (hb : sysModules < h.objs.size) : ObjOk P w H (h.push { cls := .type "dict", data := .dict #[] }) h.objs.size (DNO P w h.objs.size []) := by
  obtain ⟨_, hsm, xs, r, o, es, ep, h1, h2, h3, h4, _⟩ := (dt_empty (P := P) (w := w) (H := H) h hb)
  cases r
  exact ⟨⟨Nat.zero_le _, hsm, List.nodup_nil, o, es, ep, h1, h2, h3, h4⟩, ⟨o, h1⟩, fun g1 g2 ⟨z, y, nd, o, es, ep, e1, e2, e3, e4⟩ st => ⟨z, y, nd, o, es, ep, st _ e1, e2, e3, e4⟩⟩
theorem dn_nil (d : Addr) (H : Hp) : DN P w K (upd H d (DNO P w d [])) d [] := ⟨⟨[], upd_same, .nil⟩, fun p hp => by cases hp⟩
/-- {} that is to hold such keys -/
def tDNew (P : Program) (w : World) : TE := fun σ H Q => ∀ p, H p = none → Q (.ref p) (upd H p (DNO P w p []))
theorem pe_dnewN (hp : X.prog = P) (hw : X.w = w) {pos : Pos} : PE X (.Dict [] [] pos) (tDNew P w) := by
  subst hp hw
  refine ⟨fun pins s σ H Q I h => wpAny_Dict_empty ?_⟩
  have I1 : Inv X pins σ (upd H s.heap.objs.size (DNO X.prog X.w s.heap.objs.size [])) { s with heap := s.heap.push { cls := .type "dict", data := .dict #[] } } :=
    I.laid (t' := s.toks) (fun _ _ q => Heap.get?_push_of_some _ q) (Nat.le_refl _) (dno_new s.heap I.big)
  exact ⟨.ref _, _, I1, rfl, h _ (I.hok.fresh (Nat.le_refl _))⟩
/-- what the dict at d holds at y -/
def DGN (P : Program) (w : World) (K : PySem.W.Frag) (H : Hp) (d : Addr) (y : V) (r : Option V) : Prop := ∃ kvs k b, DN P w K H d kvs ∧ y = .ref b ∧ NkV K H k (.ref b) ∧ k.depth ≤ 8 ∧ r = valN kvs k
theorem dgn_of (I : Inv X pins σ H s) {y : V} {r : Option V} (g : DGN X.prog X.w X.K H d y r) : ∃ kvs xs k b, y = .ref b ∧ r = valN kvs k ∧ Paired RelE kvs xs ∧ xs.length ≤ sizeLine ∧ (d == sysModules) = false ∧ s.heap.DictOfH (nestedKind X.prog X.w) d xs ∧ (nestedKind X.prog X.w).is s.heap k b := by
  obtain ⟨kvs, k, b, ⟨⟨xs, e, r⟩, hk⟩, rfl, h2, h3, rfl⟩ := g
  obtain ⟨z, y, D⟩ := dn_heap I.kIn I.hok e r hk
  exact ⟨kvs, xs, k, b, rfl, rfl, r, z, y, D, NkV.is I.kIn I.hok _ _ _ h2 rfl, h3⟩
def tDGetN (P : Program) (w : World) (K : PySem.W.Frag) (td ty : TE) : TE := fun σ H Q => td σ H fun x H1 => ty σ H1 fun y H2 => ∃ a v, x = .ref a ∧ DGN P w K H2 a y (some v) ∧ Q v H2
def tDNotInN (P : Program) (w : World) (K : PySem.W.Frag) (ty td : TE) : TE := fun σ H Q => ty σ H fun y H1 => td σ H1 fun x H2 => ∃ a o, x = .ref a ∧ DGN P w K H2 a y o ∧ Q (.bl (!o.isSome)) H2
def tDInN (P : Program) (w : World) (K : PySem.W.Frag) (ty td : TE) : TE := fun σ H Q => ty σ H fun y H1 => td σ H1 fun x H2 => ∃ a o, x = .ref a ∧ DGN P w K H2 a y o ∧ Q (.bl o.isSome) H2
/-- what holds of each heap behind d[y] = v -/
def DPN (P : Program) (w : World) (K : PySem.W.Frag) (H : Hp) (d : Addr) (y v : V) (Q : Hp → Prop) : Prop := ∃ kvs k b, DN P w K H d kvs ∧ y = .ref b ∧ NkV K H k (.ref b) ∧ k.depth ≤ 8 ∧ kvs.length < sizeLine ∧ ∀ H', (∀ c, c ≠ d → H' c = H c) → (∃ φ, H' d = some (.ext φ)) → DN P w K H' d (putN kvs k b v) → Q H'
def sDPutN (P : Program) (w : World) (K : PySem.W.Frag) (td ty tv : TE) : TS := fun D σ H => tv σ H fun v H1 => td σ H1 fun x H2 => ty σ H2 fun y H3 => ∃ a, x = .ref a ∧ DPN P w K H3 a y v fun H4 => D.nx σ H4
section
variable {o i value : Expr} {pos pos' : Pos} {td ty tv : TE}
theorem pe_dgetN (hp : X.prog = P) (hw : X.w = w) (hK : X.K = K) (hu : X.A.units + 65 < cLine) (ho : PE X o td) (hi : PE X i ty) (hs : NoSl i) : PE X (.Subscript o i pos) (tDGetN P w K td ty) := by
  subst hp hw hK
  refine ⟨fun pins s σ H Q I h => ?_⟩
  refine subD_of PySem.F.slot_dict_getitem.lookup hs (thn (ho.run pins s σ H _ I h) fun u s1 ⟨x, H1, I1, rx, q1⟩ => thn (hi.run pins s1 σ H1 _ I1 q1) fun iv s2 ⟨y, H2, I2, ry, a, v, ex, g, q2⟩ => ?_)
  subst ex
  obtain rfl : u = Value.ref a := rx
  obtain ⟨kvs, xs, k, b, rfl, h2, r, z, y', D, hk⟩ := dgn_of I2 g
  obtain rfl : iv = Value.ref b := ry
  refine ⟨D.typeIs, ?_⟩
  rcases rel_find r k with ⟨h1, _⟩ | ⟨v', q', h1, h3, h4⟩
  · rw [h1] at h2; cases h2
  · rw [h1] at h2
    cases h2
    exact wpAny_getItem_heap (knd := nestedKind X.prog X.w) (by show X.A.units + 1 + 8 < cLine; omega) hk D h3 ⟨v, H2, I2.tok _, h4, q2⟩
theorem pc_dnotinN (hp : X.prog = P) (hw : X.w = w) (hK : X.K = K) (hu : X.A.units + 65 < cLine) (hi : PE X i ty) (ho : PE X o td) : PC X .NotIn i o (tDNotInN P w K ty td) := by
  subst hp hw hK
  refine ⟨fun pins s σ H Q I h => ?_⟩
  refine thn (hi.run pins s σ H _ I h) fun iv s1 ⟨y, H1, I1, ry, q1⟩ => thn (ho.run pins s1 σ H1 _ I1 q1) fun u s2 ⟨x, H2, I2, rx, a, ov, ex, g, q2⟩ => ?_
  subst ex
  obtain rfl : u = Value.ref a := rx
  obtain ⟨kvs, xs, k, b, rfl, rfl, r, z, y', D, hk⟩ := dgn_of I2 g
  obtain rfl : iv = Value.ref b := ry
  refine wpAny_notIn_heap (knd := nestedKind X.prog X.w) (by show X.A.units + 1 + 8 < cLine; omega) hk y' D ?_
  refine ⟨.bl (!(valN kvs k).isSome), H2, I2.tok _, ?_, q2⟩
  rcases rel_find r k with ⟨h1, h2⟩ | ⟨v', q', h1, h2, _⟩ <;> (rw [h1, h2]; rfl)
theorem pc_dinN (hp : X.prog = P) (hw : X.w = w) (hK : X.K = K) (hu : X.A.units + 65 < cLine) (hi : PE X i ty) (ho : PE X o td) : PC X .In i o (tDInN P w K ty td) := by
  subst hp hw hK
  refine ⟨fun pins s σ H Q I h => ?_⟩
  refine thn (hi.run pins s σ H _ I h) fun iv s1 ⟨y, H1, I1, ry, q1⟩ => thn (ho.run pins s1 σ H1 _ I1 q1) fun u s2 ⟨x, H2, I2, rx, a, ov, ex, g, q2⟩ => ?_
  subst ex
  obtain rfl : u = Value.ref a := rx
  obtain ⟨kvs, xs, k, b, rfl, rfl, r, z, y', D, hk⟩ := dgn_of I2 g
  obtain rfl : iv = Value.ref b := ry
  refine wpAny_in_heap (knd := nestedKind X.prog X.w) (by show X.A.units + 1 + 8 < cLine; omega) hk y' D ?_
  refine ⟨.bl (valN kvs k).isSome, H2, I2.tok _, ?_, q2⟩
  rcases rel_find r k with ⟨h1, h2⟩ | ⟨v', q', h1, h2, _⟩ <;> (rw [h1, h2]; rfl)
end
/-- what is left where the dict's object was replaced -/
theorem dn_new {h' : Heap} {t' : Nat} {v : V} {u : Value} {Q : Unit → Shared → Prop} (I : Inv X pins σ H s) (e : H d = some (DNO X.prog X.w d xs)) (r : Paired RelE kvs xs) (hk : ∀ p ∈ kvs, NkV X.K H p.1 (.ref p.2.1) ∧ p.1.depth ≤ 8) (y : (d == sysModules) = false)
    (hka : NkV X.K H k (.ref a)) (hdp : k.depth ≤ 8) (hl : kvs.length < sizeLine) (rv : RelV v u) (D' : h'.DictOfH (nestedKind X.prog X.w) d (storedH xs k a u)) (hs : Heap.SameBut d s.heap h')
    (h : ∀ H' s', (∀ b, b ≠ d → H' b = H b) → (∃ φ, H' d = some (.ext φ)) → DN X.prog X.w X.K H' d (putN kvs k a v) → Inv X pins σ H' s' → Q () s') : Q () { s with heap := h', toks := t' } := by
  have r2 := rel_put r k a rv
  have l2 : (storedH xs k a u).length ≤ sizeLine := by
    rw [← rel_len r2]
    have := putN_len (kvs := kvs) k a v
    omega
  have nt : ∀ b vs, H b = some (.tup vs) → b ≠ d := fun b vs hb z => by rw [z, e] at hb; cases hb
  refine h (upd H d (DNO X.prog X.w d (storedH xs k a u))) _ (fun b hb => upd_ne hb) ⟨_, upd_same⟩ ⟨⟨_, upd_same, r2⟩, fun p hp => ?_⟩ (d_write I (by rw [e]; exact True.intro) hs ?_ (dno_ok l2 y D'))
  · have := putN_key hk (v := v) hka hdp p hp
    exact ⟨NkV.same (fun b vs hb => by rw [upd_ne (nt b vs hb)]; exact hb) _ _ this.1, this.2⟩
  · obtain ⟨o, _, _, h1, _⟩ := D'
    exact ⟨o, h1⟩
theorem ps_dputN {o i value : Expr} {pos pos' : Pos} {td ty tv : TE} (hp : X.prog = P) (hw : X.w = w) (hK : X.K = K) (hu : X.A.units + 65 < cLine) (ho : PE X o td) (hi : PE X i ty) (hv : PE X value tv) (hs : swapsWith value (some (.Subscript o i pos')) pos.line X.env = pure false) :
    PS X (.Assign [.Subscript o i pos'] value pos) (sDPutN P w K td ty tv) := by
  subst hp hw hK
  refine ⟨fun pins s σ H D I h => ?_⟩
  refine wpAny_Assign_Subscript (thn (hv.run pins s σ H _ I h) fun r s1 ⟨v, H1, I1, rv, q1⟩ => thn (ho.run pins s1 σ H1 _ I1 q1) fun u s2 ⟨x, H2, I2, rx, q2⟩ => thn (hi.run pins s2 σ H2 _ I2 q2) fun iv s3 ⟨y, H3, I3, ry, a, ex, g⟩ => ?_) hs
  subst ex
  obtain rfl : u = Value.ref a := rx
  obtain ⟨kvs, k, b, ⟨⟨xs, e, rp⟩, hk⟩, rfl, hka, hdp, hl, q⟩ := g
  obtain rfl : iv = Value.ref b := ry
  obtain ⟨z, y, DD⟩ := dn_heap I3.kIn I3.hok e rp hk
  have hz : xs.length ≤ sizeLine := z
  refine wpAny_setItem_heap (knd := nestedKind X.prog X.w) (hsz := hz) (by show X.A.units + 1 + 8 < cLine; omega) ⟨NkV.is I3.kIn I3.hok _ _ _ hka rfl, hdp⟩ DD fun h' D' hs => ?_
  exact dn_new (t' := _) (Q := fun _ s' => SP X pins D Flow.next s') I3 e rp hk y hka hdp hl rv D' hs fun H' s' k1 k2 D' I' => ⟨σ, H', I', q H' k1 k2 D'⟩
theorem put_inN {E : Value → Shared → Prop} {y z : V} {u r : Value} {Q : Unit → Shared → Prop} {R : Hp → Prop} (hu : X.A.units + 65 < cLine) (I : Inv X pins σ H s) (g : DPN X.prog X.w X.K H d y z R) (ry : RelV y u) (rz : RelV z r)
    (h : ∀ H' s', Inv X pins σ H' s' → R H' → Q () s') : wpAny (model X.prog X.w) X.A (dictSet d u r) Q E s := by
  obtain ⟨kvs, k, b, ⟨⟨xs, e, rp⟩, hk⟩, rfl, hka, hdp, hl, q⟩ := g
  cases (show u = Value.ref b from ry)
  obtain ⟨zl, hsm, DO⟩ := dn_heap I.kIn I.hok e rp hk
  refine wpAny_dictSet_heap (knd := nestedKind X.prog X.w) (by show X.A.units + 8 < cLine; omega) ⟨NkV.is I.kIn I.hok _ _ _ hka rfl, hdp⟩ DO (fun h' DO' sb => ?_) zl
  exact dn_new (t' := _) I e rp hk hsm hka hdp hl rz DO' sb fun H' s' k1 k2 D' I' => h H' s' I' (q H' k1 k2 D')
/-- {k: v for ..}: the new dict D, an entry a turn -/
def tDcN (P : Program) (w : World) (K : PySem.W.Frag) (wi : TI) (g : TG) (tt : TT) (tk tv : TE) (vs : List Nat) : TE := fun σ H Q => wi σ H fun J H1 => ∀ D, H1 D = none → ∃ W : Nat → Nat → Hp → Prop, (∃ m, W 0 m (upd H1 D (DNO P w D []))) ∧ ∀ i m H2, W i m H2 →
  (J.stop i H2 ∧ Q (.ref D) H2) ∨ (J.go i H2 ∧ ∃ Nx : Hp → Prop, (∀ H', Nx H' → ∃ m', m' < m ∧ W (i + 1) m' H') ∧ ∀ x H3, J.yld i H2 x H3 → g x (wipe σ vs) H3 fun σ2 H4 => wipe σ2 vs = wipe σ vs ∧ tt σ2 H4 fun b H5 =>
    if b = true then tk σ2 H5 fun y H6 => tv σ2 H6 fun z H7 => DPN P w K H7 D y z Nx else Nx H5)
theorem pe_dcN {kx vx tg iter : Expr} {ifs : List Expr} {scope : Scope} {own : List (Str × Nat)} {pos : Pos} {wi : TI} {g : TG} {tt : TT} {tk tv : TE} (hp : X.prog = P) (hw : X.w = w) (hK : X.K = K) (hu : X.A.units + 65 < cLine) (hc : X.calm = true) (hN : X.N.Nodup) (hi : PI X tg iter wi) (ok : BlkOk X.N X.env.scope scope own)
    (hg : ∀ (s : Shared) (H : Hp) (C : Addr) (cl : List (Str × Addr)) (fp : List Addr), PG (X.blk s H scope (compEnvC scope cl C X.env) fp) tg g) (ht : ∀ (s : Shared) (H : Hp) (C : Addr) (cl : List (Str × Addr)) (fp : List Addr), PTs (X.blk s H scope (compEnvC scope cl C X.env) fp) ifs tt)
    (hk : ∀ (s : Shared) (H : Hp) (C : Addr) (cl : List (Str × Addr)) (fp : List Addr), PE (X.blk s H scope (compEnvC scope cl C X.env) fp) kx tk)
    (he : ∀ (s : Shared) (H : Hp) (C : Addr) (cl : List (Str × Addr)) (fp : List Addr), PE (X.blk s H scope (compEnvC scope cl C X.env) fp) vx tv) (hs : ∀ x, foldedSetIterable iter X.env x = pure x := by intro _; rfl) :
    PE X (.DictComp kx vx [⟨tg, iter, ifs, 0⟩] scope pos) (tDcN P w K wi g tt tk tv (own.map (·.2))) := by
  subst hp hw hK
  refine ⟨fun pins s σ H Q I h => ?_⟩
  rw [arm_eval_DictComp]
  refine wpAny_comprehension_free (use := none) rfl hs (closure_ok fun y hy e => (ok.free y hy e).elim (fun k => I.ok.has _ (.inl k)) (fun k => I.ok.has _ (.inr k))) ok.kind (fun y hy e => by rw [ok.uniq y hy, e]) (thn (hi.run pins s σ H _ I h) fun xv s1 hx => thn hx fun itv s2 h2 => ?_)
  obtain ⟨it, fp, tn, J, H2, rfl, I2, T, st2, f2, q⟩ := h2
  refine wpAny_newObj_type (newEnv_comp ?_)
  obtain ⟨D, hD⟩ : ∃ D, D = s2.heap.objs.size := ⟨_, rfl⟩
  rw [← hD]
  obtain ⟨W, ⟨m0, w0⟩, turn⟩ := q D (I2.hok.fresh (Nat.le_of_eq hD.symm))
  obtain ⟨H3, hH3⟩ : ∃ H3, H3 = upd H2 D (DNO X.prog X.w D []) := ⟨_, rfl⟩
  obtain ⟨s3, hs3⟩ : ∃ s3 : Shared, s3 = { s2 with heap := s2.heap.push { cls := .type "dict", data := .dict #[] } } := ⟨_, rfl⟩
  have hp3 : s3.heap = s2.heap.push { cls := .type "dict", data := .dict #[] } := by rw [hs3]
  have I3 : Inv X pins σ H3 s3 := by
    rw [hs3, hH3, hD]
    exact I2.laid (t' := s2.toks) (fun b o e => Heap.get?_push_of_some _ e) (Nat.le_refl _) (dno_new s2.heap I2.big)
  have f3 : ∀ b ∈ fp, FpOk X pins H3 b ∧ b < s3.heap.objs.size := fun b hb => by
    obtain ⟨o, e, _⟩ := T.obj _ _ st2 b hb
    have lt := Heap.lt_size e
    refine ⟨⟨?_, (f2 b hb).2⟩, by rw [hp3, Heap.size_push]; exact Nat.lt_succ_of_lt lt⟩
    rw [hH3, upd_ne (by rw [hD]; exact Nat.ne_of_lt lt)]
    exact (f2 b hb).1
  have I4 := block_start I3 ok hN f3
  rw [← hH3] at w0
  have st4 : tn 0 (pushCells (s3.heap.push { cls := .type "dict", data := .dict #[] }) scope.names) :=
    T.keep _ _ _ st2 fun b _ o e => pushCells_keeps _ _ _ _ (Heap.get?_push_of_some _ (by rw [hp3]; exact Heap.get?_push_of_some _ e))
  have core : codeAny (model X.prog X.w) X.A (.compStart (.DictComp kx vx [⟨tg, iter, ifs, 0⟩] scope pos) 0 (.ref it) (.ref D) (compEnvC scope (cellsFrom (s3.heap.objs.size + 1) scope.names (cloFrom X.env.cells scope.names [])) s3.heap.objs.size X.env))
      (compPost (model X.prog X.w) X.A X.xe none (EP X pins σ Q) (.ref D) s3.heap.objs.size) { s3 with heap := pushCells (s3.heap.push { cls := .type "dict", data := .dict #[] }) scope.names } := by
    have pg := hg s3 H3 s3.heap.objs.size (cellsFrom (s3.heap.objs.size + 1) scope.names (cloFrom X.env.cells scope.names [])) fp
    have pt := ht s3 H3 s3.heap.objs.size (cellsFrom (s3.heap.objs.size + 1) scope.names (cloFrom X.env.cells scope.names [])) fp
    have pk := hk s3 H3 s3.heap.objs.size (cellsFrom (s3.heap.objs.size + 1) scope.names (cloFrom X.env.cells scope.names [])) fp
    have pe := he s3 H3 s3.heap.objs.size (cellsFrom (s3.heap.objs.size + 1) scope.names (cloFrom X.env.cells scope.names [])) fp
    have cL : (compEnvC scope (cellsFrom (s3.heap.objs.size + 1) scope.names (cloFrom X.env.cells scope.names [])) s3.heap.objs.size X.env).locals = s3.heap.objs.size := rfl
    generalize compEnvC scope (cellsFrom (s3.heap.objs.size + 1) scope.names (cloFrom X.env.cells scope.names [])) s3.heap.objs.size X.env = ce at I4 pg pt pk pe cL ⊢
    have lay : ∀ {σ' : L2.St} {H' : Hp} {s' : Shared}, Inv (X.blk s3 H3 scope ce fp) [] σ' H' s' → (∀ b ∈ fp, H' b = none) → ∀ b ∈ fp, FpOk (X.blk s3 H3 scope ce fp) [] H' b := fun I' n b hb => ⟨n b hb, (I'.ok.exf b hb).1, I'.ok.exfs b hb, .inl hb, fun x c e => (I'.ok.exf b hb).2 x c e, fun p hp => nomatch (show p ∈ ([] : List (Addr × Obj)) from hp)⟩
    have turns : codeAny (model X.prog X.w) X.A (.compLoop (.DictComp kx vx [⟨tg, iter, ifs, 0⟩] scope pos) 0 (.ref it) (.ref D) ce) (compPost (model X.prog X.w) X.A X.xe none (EP X pins σ Q) (.ref D) s3.heap.objs.size) { s3 with heap := pushCells (s3.heap.push { cls := .type "dict", data := .dict #[] }) scope.names } := by
      refine compLoop_anyD (fun n s' => ∃ i H', Inv (X.blk s3 H3 scope ce fp) [] (wipe σ (own.map (·.2))) H' s' ∧ tn i s'.heap ∧ (∀ b ∈ fp, H' b = none) ∧ W i n H') ?_ m0 ⟨0, H3, I4, st4, fun b hb => (f3 b hb).1.1, w0⟩
      rintro n s5 ⟨i, H5, I5, st5, n5, w5⟩
      rcases turn i n H5 w5 with ⟨stop, qq⟩ | ⟨go, Nx, hNx, step⟩
      · refine thnF (T.done (X.blk s3 H3 scope ce fp) rfl rfl rfl hc i [] s5 _ H5 (fun _ _ => False) I5 (lay I5 n5) st5 stop) fun r s6 ⟨hr, I6⟩ => ?_
        subst hr
        have I7 : Inv X pins σ H5 s6 := I3.call' (ch := fp) I6.os I6.base I6.hok I6.bare fun b hb => ⟨(f3 b hb).1.2.2.2.1, (f3 b hb).1.2.1, (f3 b hb).1.2.2.2.2.1, (f3 b hb).1.2.2.2.2.2⟩
        have nC : H5 s3.heap.objs.size = none := by
          have zz : H5 ce.locals = none := I6.free
          rwa [cL] at zz
        obtain ⟨mm, hn, _⟩ := I6.loc
        have hn : s6.heap.Ns ce.locals mm := hn
        rw [cL] at hn
        obtain ⟨f0, f1, f4, f5, f6, f7⟩ := I3.fpOk (Nat.le_refl _) nC
        exact ⟨mm, hn, fun h'' sb => ⟨.ref D, H5, I7.turned (t' := s6.toks) (fun b o hb e => (sb.2 b hb).trans e) f0 f1 f5 f6 f7, rfl, qq⟩⟩
      · refine thnF (T.item (X.blk s3 H3 scope ce fp) rfl rfl rfl hc i [] s5 _ H5 (fun _ _ => False) I5 (lay I5 n5) st5 go) fun r s6 ⟨u, hr, h6⟩ => ?_
        subst hr
        refine thnF h6 fun _ s7 ⟨x, H7, I7, r7, y7, st7, n7⟩ => ?_
        refine thnF (pg.run _ s7 _ H7 x u _ (I7.pinned (lay I7 n7) (T.obj _ _ st7)) r7 (step x H7 y7)) fun _ s8 ⟨σ8, H8, I8, hw8, q8⟩ => ?_
        refine thnF (pt.run _ s8 σ8 H8 _ I8 q8) fun b s9 ⟨H9, I9, q9⟩ => ?_
        have next : ∀ {s' : Shared} {H' : Hp}, Inv (X.blk s3 H3 scope ce fp) ([] ++ pinsAt fp s7.heap) σ8 H' s' → Nx H' → ∃ m, m < n ∧ ∃ i H', Inv (X.blk s3 H3 scope ce fp) [] (wipe σ (own.map (·.2))) H' s' ∧ tn i s'.heap ∧ (∀ b ∈ fp, H' b = none) ∧ W i m H' := fun {s' H'} I' nx => by
          obtain ⟨m', hm, w'⟩ := hNx H' nx
          have pin' : ∀ b ∈ fp, ∀ o, s7.heap.get? b = some o → s'.heap.get? b = some o ∧ H' b = none := fun b hb o e => (fun z => ⟨z.1, z.2.1⟩) (I'.pin (b, o) (List.mem_append_right _ (List.mem_append_right _ (mem_pinsAt hb e))))
          refine ⟨m', hm, i + 1, H', (I'.unpinned (pins := [])).weak (by rw [← hw8, wipe_length]) (fun j v e => ?_), T.keep _ _ _ st7 fun b hb o e => (pin' b hb o e).1, fun b hb => ?_, w'⟩
          · rw [← hw8] at e
            exact (wipe_some e).1
          · obtain ⟨o, e, _⟩ := T.obj _ _ st7 b hb
            exact (pin' b hb o e).2
        cases b with
        | false => exact next I9 (by rwa [if_neg Bool.false_ne_true] at q9)
        | true =>
          rw [if_pos rfl] at q9
          refine thnF (pk.run _ s9 σ8 H9 _ I9 q9) fun kv s10 ⟨yk, H10, I10, r10, q10⟩ => ?_
          refine thnF (pe.run _ s10 σ8 H10 _ I10 q10) fun vv s11 ⟨yv, H11, I11, r11, g⟩ => ?_
          exact put_inN (X := X.blk s3 H3 scope ce fp) hu I11 g r10 r11 fun H12 s12 I12 nx => next I12 nx
    exact codeAny_compStart_dict turns (T.self X.A 0 _ _ _ st4 turns)
  rw [hs3] at core
  exact core
end
end Dn2
namespace Gk
/-! endless words of a pair of expressions -/
/-- m letters of an endless word from a turn on -/
def sg (wd : Nat → Int) (j m : Nat) : List Int := (List.range m).map fun i => wd (j + i)
theorem sg_len (wd : Nat → Int) (j m : Nat) : (sg wd j m).length = m := by unfold sg; rw [List.length_map, List.length_range]
theorem sg_get (wd : Nat → Int) {j m i : Nat} (h : i < m) : (sg wd j m)[i]? = some (wd (j + i)) := by
  unfold sg
  rw [List.getElem?_map, List.getElem?_range h]; rfl
theorem sg_succ (wd : Nat → Int) (j m : Nat) : sg wd j (m + 1) = wd j :: sg wd (j + 1) m := by
  unfold sg
  rw [List.range_succ_eq_map, List.map_cons, List.map_map]
  congr 1
  refine List.map_congr_left fun i _ => ?_
  show wd (j + (i + 1)) = wd (j + 1 + i)
  rw [Nat.add_right_comm j 1 i]
  rfl
theorem wy_fun {e : Ex} {p q : Nat} {w : List Int} (h : Wy e p w q) : ∃ g : Nat → Nat, g 0 = p ∧ g w.length = q ∧ ∀ i, i < w.length → fo e (g i) (g (i + 1)) = true ∧ (lt e)[g (i + 1)]? = w[i]? := by
  induction h with
  | nil p => exact ⟨fun _ => p, rfl, rfl, fun i h => absurd h (Nat.not_lt_zero _)⟩
  | @cons p q r a w k l _ ih =>
    obtain ⟨g, g0, g1, g2⟩ := ih
    refine ⟨fun i => match i with | 0 => p | i + 1 => g i, rfl, g1, fun i hi => ?_⟩
    cases i with
    | zero => exact ⟨by show fo e p (g 0) = true; rw [g0]; exact k, by show (lt e)[g 0]? = _; rw [g0, l]; rfl⟩
    | succ i => exact g2 i (Nat.lt_of_succ_lt_succ hi)
theorem fun_wy {e : Ex} : ∀ (w : List Int) (g : Nat → Nat), (∀ i, i < w.length → fo e (g i) (g (i + 1)) = true ∧ (lt e)[g (i + 1)]? = w[i]?) → Wy e (g 0) w (g w.length)
  | [], g, _ => .nil _
  | a :: w, g, h => .cons (h 0 (Nat.zero_lt_succ _)).1 (h 0 (Nat.zero_lt_succ _)).2 (fun_wy w (fun i => g (i + 1)) fun i hi => h (i + 1) (Nat.succ_lt_succ hi))
/-- a word of e, as its places turn by turn -/
structure Wk (e : Ex) (wd : Nat → Int) (j m : Nat) (g : Nat → Nat) : Prop where
  fs : fs e (g 0) = true
  lt : ∀ i, i < m → (lt e)[g i]? = some (wd (j + i))
  fo : ∀ i, i + 1 < m → fo e (g i) (g (i + 1)) = true
  la : la e (g (m - 1)) = true
theorem lg_wk {e : Ex} {wd : Nat → Int} {j m : Nat} (hm : 0 < m) : Lg e (sg wd j m) ↔ ∃ g, Wk e wd j m g := by
  obtain ⟨m, rfl⟩ : ∃ m', m = m' + 1 := ⟨m - 1, by omega⟩
  rw [lg_iff, sg_succ]
  constructor
  · rintro (⟨h, _⟩ | ⟨a, u, p, q, hw, h1, h2, h3, h4⟩)
    · cases h
    · obtain ⟨rfl, rfl⟩ := List.cons.inj hw
      obtain ⟨g, g0, g1, g2⟩ := wy_fun h3
      rw [sg_len] at g1 g2
      refine ⟨g, by rw [g0]; exact h1, fun i hi => ?_, fun i hi => (g2 i (by omega)).1, by rw [show m + 1 - 1 = m by omega, g1]; exact h4⟩
      cases i with
      | zero => rw [g0]; exact h2
      | succ i =>
        rw [(g2 i (by omega)).2, sg_get wd (show i < m by omega)]
        rw [show j + 1 + i = j + (i + 1) by omega]
  · rintro ⟨g, k⟩
    refine .inr ⟨wd j, sg wd (j + 1) m, g 0, g m, rfl, k.fs, k.lt 0 (by omega), ?_, k.la⟩
    have := fun_wy (e := e) (sg wd (j + 1) m) g fun i hi => by
      rw [sg_len] at hi
      exact ⟨k.fo i (by omega), by rw [k.lt (i + 1) (by omega), sg_get wd hi, show j + 1 + i = j + (i + 1) by omega]⟩
    rwa [sg_len] at this
/-- a word of e, then words of f for ever, none of these empty -/
def Mt (e f : Ex) (wd : Nat → Int) : Prop := ∃ k : Nat → Nat, Lg e (sg wd 0 (k 0)) ∧ ∀ i, k i < k (i + 1) ∧ Lg f (sg wd (k i) (k (i + 1) - k i))
/-- a state of the pair behind a state, for a letter -/
def Sx (e f : Ex) (pt : Int) (q : Nat) (z : Int) (pt' : Int) (q' : Nat) : Prop :=
  (pt = 0 ∧ pt' = 0 ∧ fo e q q' = true ∧ (lt e)[q']? = some z) ∨ (pt ≠ 0 ∧ pt' = 2 ∧ fo f q q' = true ∧ (lt f)[q']? = some z) ∨
  (pt = 0 ∧ la e q = true ∧ pt' = 1 ∧ fs f q' = true ∧ (lt f)[q']? = some z) ∨ (pt ≠ 0 ∧ la f q = true ∧ pt' = 1 ∧ fs f q' = true ∧ (lt f)[q']? = some z)
def Fx (e f : Ex) (z : Int) (pt' : Int) (q' : Nat) : Prop := (pt' = 0 ∧ fs e q' = true ∧ (lt e)[q']? = some z) ∨ (nul e = true ∧ pt' = 1 ∧ fs f q' = true ∧ (lt f)[q']? = some z)
theorem least {p : Nat → Prop} : ∀ n, p n → ∃ j, j ≤ n ∧ p j ∧ ∀ m, m < j → ¬ p m
  | n => fun h => by
    by_cases c : ∃ m, m < n ∧ p m
    · obtain ⟨m, hm, pm⟩ := c
      obtain ⟨j, h1, h2, h3⟩ := least m pm
      exact ⟨j, by omega, h2, h3⟩
    · exact ⟨n, Nat.le_refl _, h, fun m hm pm => c ⟨m, hm, pm⟩⟩
  termination_by n => n
theorem inc_ge {k : Nat → Nat} (h : ∀ i, k i < k (i + 1)) : ∀ d i, k i + d ≤ k (i + d)
  | 0, i => Nat.le_refl _
  | d + 1, i => by have := inc_ge h d i; have := h (i + d); show _ ≤ k (i + d + 1); omega
theorem seg_ex {k : Nat → Nat} (h : ∀ i, k i < k (i + 1)) : ∀ i, k 0 ≤ i → ∃ s, k s ≤ i ∧ i < k (s + 1)
  | i, h0 => by
    have h1 := inc_ge h (i + 1) 0
    obtain ⟨j, _, h2, h3⟩ := least (p := fun s => i < k (s + 1)) i (by show i < k (i + 1); rw [Nat.zero_add] at h1; omega)
    refine ⟨j, ?_, h2⟩
    cases j with
    | zero => exact h0
    | succ j =>
      have := h3 j (by omega)
      omega
theorem seg_un {k : Nat → Nat} (h : ∀ i, k i < k (i + 1)) {i s t : Nat} (h1 : k s ≤ i) (h2 : i < k (s + 1)) (h3 : k t ≤ i) (h4 : i < k (t + 1)) : s = t := by
  rcases Nat.lt_trichotomy s t with c | c | c
  · have := inc_ge h (t - (s + 1)) (s + 1)
    rw [show s + 1 + (t - (s + 1)) = t by omega] at this
    omega
  · exact c
  · have := inc_ge h (s - (t + 1)) (t + 1)
    rw [show t + 1 + (s - (t + 1)) = s by omega] at this
    omega
theorem mt_iff {e f : Ex} {wd : Nat → Int} : Mt e f wd ↔ ∃ (P : Nat → Int) (Q : Nat → Nat), Fx e f (wd 0) (P 0) (Q 0) ∧ (∀ i, Sx e f (P i) (Q i) (wd (i + 1)) (P (i + 1)) (Q (i + 1))) ∧ ∀ i, ∃ j, i < j ∧ P j = 1 := by
  constructor
  · rintro ⟨k, h0, hk⟩
    have inc : ∀ i, k i < k (i + 1) := fun i => (hk i).1
    obtain ⟨g0, hg0⟩ : ∃ g0, 0 < k 0 → Wk e wd 0 (k 0) g0 := by
      by_cases c : 0 < k 0
      · obtain ⟨g, hg⟩ := (lg_wk c).mp h0
        exact ⟨g, fun _ => hg⟩
      · exact ⟨fun _ => 0, fun z => absurd z c⟩
    obtain ⟨gs, hgs⟩ := Classical.axiomOfChoice fun s => (lg_wk (e := f) (wd := wd) (j := k s) (m := k (s + 1) - k s) (by have := inc s; omega)).mp (hk s).2
    obtain ⟨sx, hsx⟩ := Classical.axiomOfChoice (r := fun i s => k 0 ≤ i → k s ≤ i ∧ i < k (s + 1)) fun i => by
      by_cases c : k 0 ≤ i
      · obtain ⟨s, h⟩ := seg_ex inc i c
        exact ⟨s, fun _ => h⟩
      · exact ⟨0, fun z => absurd z c⟩
    have sxu : ∀ {i s}, k s ≤ i → i < k (s + 1) → sx i = s := fun {i s} h1 h2 => by
      have h3 := inc_ge inc s 0
      rw [Nat.zero_add] at h3
      have := hsx i (by omega)
      exact seg_un inc this.1 this.2 h1 h2
    have hz : ∀ s, k 0 ≤ k s := fun s => by have := inc_ge inc s 0; rw [Nat.zero_add] at this; omega
    have Plo : ∀ {i}, i < k 0 → (if i < k 0 then (0 : Int) else if i = k (sx i) then 1 else 2) = 0 := fun h => if_pos h
    have Phi : ∀ {i s}, k s ≤ i → i < k (s + 1) → (if i < k 0 then (0 : Int) else if i = k (sx i) then 1 else 2) = (if i = k s then 1 else 2) := fun {i s} h1 h2 => by
      have := hz s
      rw [if_neg (show ¬ i < k 0 by omega), sxu h1 h2]
    have Qlo : ∀ {i}, i < k 0 → (if i < k 0 then g0 i else gs (sx i) (i - k (sx i))) = g0 i := fun h => if_pos h
    have Qhi : ∀ {i s}, k s ≤ i → i < k (s + 1) → (if i < k 0 then g0 i else gs (sx i) (i - k (sx i))) = gs s (i - k s) := fun {i s} h1 h2 => by
      have := hz s
      rw [if_neg (show ¬ i < k 0 by omega), sxu h1 h2]
    refine ⟨fun i => if i < k 0 then 0 else if i = k (sx i) then 1 else 2, fun i => if i < k 0 then g0 i else gs (sx i) (i - k (sx i)), ?_, fun i => ?_, fun i => ?_⟩
    · show Fx e f (wd 0) (if 0 < k 0 then (0 : Int) else if 0 = k (sx 0) then 1 else 2) (if 0 < k 0 then g0 0 else gs (sx 0) (0 - k (sx 0)))
      by_cases c : 0 < k 0
      · rw [Plo c, Qlo c]
        have w := hg0 c
        exact .inl ⟨rfl, w.fs, w.lt 0 c⟩
      · have e0 : k 0 = 0 := by omega
        have h1 := inc 0
        rw [Phi (s := 0) (by omega) (by omega), Qhi (s := 0) (by omega) (by omega), if_pos e0.symm]
        have w := hgs 0
        have wl := w.lt 0 (by omega)
        rw [Nat.add_zero, e0] at wl
        rw [e0] at h0
        refine .inr ⟨nul_of h0 rfl, rfl, by rw [e0]; exact w.fs, by rw [e0]; exact wl⟩
    · show Sx e f (if i < k 0 then (0 : Int) else if i = k (sx i) then 1 else 2) (if i < k 0 then g0 i else gs (sx i) (i - k (sx i))) _ (if i + 1 < k 0 then (0 : Int) else if i + 1 = k (sx (i + 1)) then 1 else 2) (if i + 1 < k 0 then g0 (i + 1) else gs (sx (i + 1)) (i + 1 - k (sx (i + 1))))
      by_cases c : i < k 0
      · rw [Plo c, Qlo c]
        have w := hg0 (by omega)
        by_cases d : i + 1 < k 0
        · rw [Plo d, Qlo d]
          have := w.lt (i + 1) d
          rw [Nat.zero_add] at this
          exact .inl ⟨rfl, rfl, w.fo i d, this⟩
        · have e0 : k 0 = i + 1 := by omega
          have h1 := inc 0
          rw [Phi (s := 0) (by omega) (by omega), Qhi (s := 0) (by omega) (by omega), if_pos e0.symm]
          have v := hgs 0
          have vl := v.lt 0 (by omega)
          rw [Nat.add_zero, e0] at vl
          have wl := w.la
          rw [e0, show i + 1 - 1 = i by omega] at wl
          exact .inr (.inr (.inl ⟨rfl, wl, rfl, by rw [e0, Nat.sub_self]; exact v.fs, by rw [e0, Nat.sub_self]; exact vl⟩))
      · obtain ⟨a, b⟩ := hsx i (by omega)
        obtain ⟨s, hs⟩ : ∃ s, s = sx i := ⟨_, rfl⟩
        rw [← hs] at a b
        have v := hgs s
        rw [Phi a b, Qhi a b]
        have np : (if i = k s then (1 : Int) else 2) ≠ 0 := by split <;> decide
        by_cases d : i + 1 < k (s + 1)
        · rw [Phi (s := s) (by omega) d, Qhi (s := s) (by omega) d, if_neg (show ¬ i + 1 = k s by omega)]
          have v1 := v.fo (i - k s) (by omega)
          have v2 := v.lt (i - k s + 1) (by omega)
          rw [show k s + (i - k s + 1) = i + 1 by omega] at v2
          exact .inr (.inl ⟨np, rfl, by rw [show i + 1 - k s = i - k s + 1 by omega]; exact v1, by rw [show i + 1 - k s = i - k s + 1 by omega]; exact v2⟩)
        · have e0 : k (s + 1) = i + 1 := by omega
          have h1 := inc (s + 1)
          rw [Phi (s := s + 1) (by omega) (by omega), Qhi (s := s + 1) (by omega) (by omega), if_pos e0.symm]
          have v2 := hgs (s + 1)
          have vl := v2.lt 0 (by omega)
          rw [Nat.add_zero, e0] at vl
          have wl := v.la
          rw [e0, show i + 1 - k s - 1 = i - k s by omega] at wl
          exact .inr (.inr (.inr ⟨np, wl, rfl, by rw [e0, Nat.sub_self]; exact v2.fs, by rw [e0, Nat.sub_self]; exact vl⟩))
    · have h1 := inc_ge inc (i + 1) 0
      rw [Nat.zero_add] at h1
      refine ⟨k (i + 1), by omega, ?_⟩
      show (if k (i + 1) < k 0 then (0 : Int) else if k (i + 1) = k (sx (k (i + 1))) then 1 else 2) = 1
      rw [Phi (s := i + 1) (Nat.le_refl _) (inc _), if_pos rfl]
  · rintro ⟨P, Q, hF, hS, hi⟩
    have one : ∀ j, P j = 1 → fs f (Q j) = true ∧ (lt f)[Q j]? = some (wd j) := fun j hj => by
      cases j with
      | zero =>
        rcases hF with ⟨h, _⟩ | ⟨_, _, h1, h2⟩
        · rw [h] at hj; cases hj
        · exact ⟨h1, h2⟩
      | succ j =>
        rcases hS j with ⟨_, h, _⟩ | ⟨_, h, _⟩ | ⟨_, _, _, h1, h2⟩ | ⟨_, _, _, h1, h2⟩
        · rw [h] at hj; cases hj
        · rw [h] at hj; cases hj
        · exact ⟨h1, h2⟩
        · exact ⟨h1, h2⟩
    obtain ⟨nx, hnx⟩ := Classical.axiomOfChoice (r := fun i j => i < j ∧ P j = 1 ∧ ∀ m, i < m → m < j → P m ≠ 1) fun i => by
      obtain ⟨j, h1, h2⟩ := hi i
      obtain ⟨j', _, h3, h4⟩ := least (p := fun j => i < j ∧ P j = 1) j ⟨h1, h2⟩
      exact ⟨j', h3.1, h3.2, fun m h5 h6 h7 => h4 m h6 ⟨h5, h7⟩⟩
    obtain ⟨k0, k01, k02⟩ : ∃ k0, P k0 = 1 ∧ ∀ m, m < k0 → P m ≠ 1 := by
      obtain ⟨j, _, h2⟩ := hi 0
      obtain ⟨j', _, h3, h4⟩ := least (p := fun j => P j = 1) j h2
      exact ⟨j', h3, h4⟩
    obtain ⟨k, hk0, hks⟩ : ∃ k : Nat → Nat, k 0 = k0 ∧ ∀ i, k (i + 1) = nx (k i) := ⟨fun i => Nat.rec k0 (fun _ r => nx r) i, rfl, fun _ => rfl⟩
    have kP : ∀ i, P (k i) = 1 := fun i => by
      cases i with
      | zero => rw [hk0]; exact k01
      | succ i => rw [hks]; exact (hnx _).2.1
    have P0 : ∀ m, m < k 0 → P m = 0 := fun m => by
      rw [hk0]
      induction m with
      | zero =>
        intro h
        rcases hF with ⟨h1, _⟩ | ⟨_, h1, _⟩
        · exact h1
        · exact absurd h1 (k02 0 h)
      | succ m ih =>
        intro h
        have z := ih (by omega)
        rcases hS m with ⟨_, h1, _⟩ | ⟨h1, _⟩ | ⟨_, _, h1, _⟩ | ⟨h1, _⟩
        · exact h1
        · exact absurd z h1
        · exact absurd h1 (k02 _ h)
        · exact absurd z h1
    have F0 : ∀ m, m < k 0 → (lt e)[Q m]? = some (wd m) := fun m h => by
      have z := P0 m h
      cases m with
      | zero =>
        rcases hF with ⟨_, _, h1⟩ | ⟨_, h1, _⟩
        · exact h1
        · rw [z] at h1; cases h1
      | succ m =>
        rcases hS m with ⟨_, _, _, h1⟩ | ⟨_, h1, _⟩ | ⟨_, _, h1, _⟩ | ⟨_, _, h1, _⟩
        · exact h1
        · rw [z] at h1; cases h1
        · rw [z] at h1; cases h1
        · rw [z] at h1; cases h1
    have P2 : ∀ i d, 0 < d → k i + d < k (i + 1) → P (k i + d) = 2 := fun i d => by
      induction d with
      | zero => intro h; omega
      | succ d ih =>
        intro _ h
        have nz : P (k i + d) ≠ 0 := by
          rcases Nat.eq_zero_or_pos d with c | c
          · rw [c, Nat.add_zero, kP]; decide
          · rw [ih c (by omega)]; decide
        rcases hS (k i + d) with ⟨h1, _⟩ | ⟨_, h1, _⟩ | ⟨h1, _⟩ | ⟨_, _, h1, _⟩
        · exact absurd h1 nz
        · exact h1
        · exact absurd h1 nz
        · rw [hks] at h
          exact absurd h1 ((hnx (k i)).2.2 _ (by omega) h)
    have PN : ∀ i d, k i + d < k (i + 1) → P (k i + d) ≠ 0 := fun i d h => by
      rcases Nat.eq_zero_or_pos d with c | c
      · rw [c, Nat.add_zero, kP]; decide
      · rw [P2 i d c h]; decide
    refine ⟨k, ?_, fun i => ?_⟩
    · rcases Nat.eq_zero_or_pos (k 0) with c | c
      · rw [c]
        rcases hF with ⟨h1, _⟩ | ⟨h1, _⟩
        · have := kP 0
          rw [c, h1] at this; cases this
        · exact of_nul h1
      · refine (lg_wk c).mpr ⟨Q, ?_, fun i hi => by rw [Nat.zero_add]; exact F0 i hi, fun i hi => ?_, ?_⟩
        · rcases hF with ⟨_, h1, _⟩ | ⟨_, h1, _⟩
          · exact h1
          · have := P0 0 c
            rw [h1] at this; cases this
        · have z := P0 (i + 1) hi
          rcases hS i with ⟨_, _, h1, _⟩ | ⟨_, h1, _⟩ | ⟨_, _, h1, _⟩ | ⟨_, _, h1, _⟩
          · exact h1
          · rw [z] at h1; cases h1
          · rw [z] at h1; cases h1
          · rw [z] at h1; cases h1
        · have z := kP 0
          have y := P0 (k 0 - 1) (by omega)
          have s := hS (k 0 - 1)
          rw [show k 0 - 1 + 1 = k 0 by omega] at s
          rcases s with ⟨_, h1, _⟩ | ⟨h1, _⟩ | ⟨_, h1, _⟩ | ⟨h1, _⟩
          · rw [z] at h1; cases h1
          · exact absurd y h1
          · exact h1
          · exact absurd y h1
    · have inc : k i < k (i + 1) := by rw [hks]; exact (hnx (k i)).1
      refine ⟨inc, (lg_wk (by omega)).mpr ⟨fun t => Q (k i + t), (one _ (kP i)).1, fun t ht => ?_, fun t ht => ?_, ?_⟩⟩
      · show (lt f)[Q (k i + t)]? = _
        rcases Nat.eq_zero_or_pos t with c | c
        · rw [c]; exact (one _ (kP i)).2
        · have z := P2 i t c (by omega)
          have s := hS (k i + (t - 1))
          rw [show k i + (t - 1) + 1 = k i + t by omega] at s
          rcases s with ⟨_, h1, _⟩ | ⟨_, _, _, h1⟩ | ⟨_, _, h1, _⟩ | ⟨_, _, h1, _⟩
          · rw [z] at h1; cases h1
          · exact h1
          · rw [z] at h1; cases h1
          · rw [z] at h1; cases h1
      · show fo f (Q (k i + t)) (Q (k i + (t + 1))) = true
        have z := P2 i (t + 1) (by omega) (by omega)
        rcases hS (k i + t) with ⟨_, h1, _⟩ | ⟨_, _, h1, _⟩ | ⟨_, _, h1, _⟩ | ⟨_, _, h1, _⟩
        · rw [← Nat.add_assoc, h1] at z; cases z
        · exact h1
        · rw [← Nat.add_assoc, h1] at z; cases z
        · rw [← Nat.add_assoc, h1] at z; cases z
      · show la f (Q (k i + (k (i + 1) - k i - 1))) = true
        have z := kP (i + 1)
        have y := PN i (k (i + 1) - k i - 1) (by omega)
        have s := hS (k i + (k (i + 1) - k i - 1))
        rw [show k i + (k (i + 1) - k i - 1) + 1 = k (i + 1) by omega] at s
        rcases s with ⟨h1, _⟩ | ⟨_, h1, _⟩ | ⟨h1, _⟩ | ⟨_, h1, _⟩
        · exact absurd h1 y
        · rw [z] at h1; cases h1
        · exact absurd h1 y
        · exact h1
/-- the letters of a lasso -/
theorem sg_wd {ls : List Int} {back : Nat} : ∀ (m i : Nat), sg (fun i => ls.getD (pl ls.length back 0 i) 0) i m = wd ls back (pl ls.length back 0 i) m
  | 0, i => rfl
  | m + 1, i => by
    rw [sg_succ, sg_wd m (i + 1), pl_add ls.length back i 1 0]
    rfl
theorem mt_st {ls : List Int} {back : Nat} {e f : Ex} : Mt e f (fun i => ls.getD (pl ls.length back 0 i) 0) ↔ ∃ c : Nat → Nat, ((nul e = true ∧ c 0 = 0) ∨ St ls back e 0 (c 0)) ∧ ∀ i, St ls back f (c i) (c (i + 1)) := by
  constructor
  · rintro ⟨k, h0, hk⟩
    refine ⟨fun i => pl ls.length back 0 (k i), ?_, fun i => ?_⟩
    · rw [sg_wd] at h0
      rcases Nat.eq_zero_or_pos (k 0) with c | c
      · refine .inl ⟨?_, ?_⟩
        · rw [c] at h0; exact nul_of h0 rfl
        · show pl ls.length back 0 (k 0) = 0
          rw [c]; rfl
      · exact .inr ⟨k 0, c, rfl, h0⟩
    · obtain ⟨h1, h2⟩ := hk i
      rw [sg_wd] at h2
      refine ⟨k (i + 1) - k i, by omega, ?_, h2⟩
      rw [← pl_add, show k i + (k (i + 1) - k i) = k (i + 1) by omega]
  · rintro ⟨c, h0, hc⟩
    obtain ⟨m, hm⟩ := Classical.axiomOfChoice hc
    obtain ⟨m0, e0, l0⟩ : ∃ m0, pl ls.length back 0 m0 = c 0 ∧ Lg e (wd ls back 0 m0) := by
      rcases h0 with ⟨h1, h2⟩ | ⟨m0, _, h1, h2⟩
      · exact ⟨0, h2.symm, of_nul h1⟩
      · exact ⟨m0, h1, h2⟩
    obtain ⟨k, hk0, hks⟩ : ∃ k : Nat → Nat, k 0 = m0 ∧ ∀ i, k (i + 1) = k i + m i := ⟨fun i => Nat.rec m0 (fun i r => r + m i) i, rfl, fun _ => rfl⟩
    have at_ : ∀ i, pl ls.length back 0 (k i) = c i := fun i => by
      induction i with
      | zero => rw [hk0]; exact e0
      | succ i ih => rw [hks, pl_add, ih]; exact (hm i).2.1
    refine ⟨k, ?_, fun i => ?_⟩
    · rw [sg_wd, hk0]; exact l0
    · have h1 := (hm i).1
      refine ⟨by rw [hks]; omega, ?_⟩
      rw [sg_wd, at_, hks, show k i + m i - k i = m i by omega]
      exact (hm i).2.2
end Gk
/-! ### own rules: a lambda with parameters as a closure that is handed on -/
namespace Lm
open PySem PySem.Spec PyProof.Rows L2 LamX NdefX Clo
/-- the object at f is the lambda F (its statements aren't looked at) with the body e -/
def LmO (f : Addr) (F : NF) (e : Expr) : HO := .ext fun h => ∃ pm ctv : Value, h.get? f = some (PySem.W.kla_obj F.name F.qual F.params e F.scope F.cl pm F.c ctv)
theorem lmO_at {P : Program} {w : World} {H : Hp} {h : Heap} {f : Addr} {F : NF} {e : Expr} (hok : HOk P w H h) (k : H f = some (LmO f F e)) : ∃ pm ctv : Value, h.get? f = some (PySem.W.kla_obj F.name F.qual F.params e F.scope F.cl pm F.c ctv) := by
  obtain ⟨z, _, _⟩ := hok f _ k
  exact z
/-- its promise -/
structure LOk (P : Program) (w : World) (K : PySem.W.Frag) (mg : Str → Option Value) (base : Heap) (k : Nat) (f : Addr) (F : NF) (e : Expr) (ps fr : List Str) (sp : List (Option V) → Sp) : Prop where
  len : ∀ ws vs H Q E, sp ws vs H Q E → vs.length = ps.length
  run : ∀ (A : Around) (outer : List Env) (s : Shared) (H : Hp) (us : List Value) (vs : List V) (ws : List (Option V)) (Q : VK) (E : XK), Room k A → Env0 P w K mg base A outer s H → H f = some (LmO f F e) → H F.c = some (CodeO F.c F.qual) →
    CellsAt F.cl fr ws s.heap H → Vals vs us → sp ws vs H Q E → codeAny (model P w) A (.call (.ref f) ⟨us, []⟩) (CR CX0 outer P w H s Q E) s
section
variable {P : Program} {w : World} {K : PySem.W.Frag} {mg : Str → Option Value} {base : Heap} {N ps fr : List Str} {F : NF} {e : Expr} {f : Addr} {k : Nat} {sp : List (Option V) → Sp}
theorem lokC_of (S : CScope N ps fr F.scope) (hcl : ∀ y c, F.cl.lookup y = some c → F.scope.names.lookup y = some .free) (hb : ∀ (pm ctv : Value) (us : List Value), us.length = ps.length → bindArgs (PySem.W.kla_fn F.name F.qual F.params e F.scope F.cl pm (.ref F.c) ctv) ⟨us, []⟩ = pure (ps.zip us)) (len : ∀ ws vs H Q E, sp ws vs H Q E → vs.length = ps.length)
    (hbody : ∀ (A : Around) (outer : List Env) (s : Shared) (H : Hp) (vs : List V) (ws : List (Option V)) (Q : VK) (E : XK), Room k (A.deeper (envC F f s.heap.objs.size)) → H f = some (LmO f F e) → H F.c = some (CodeO F.c F.qual) → ws.length = fr.length → sp ws vs H Q E →
      ∃ t, PE (ncxC CX0 P w K mg base N F f A outer s H E).nox e t ∧ t (startF N vs ws) H Q) :
    LOk P w K mg base (k + 1) f F e ps fr sp := by
  refine ⟨len, fun A outer s H us vs ws Q E hr e0 hf hc C r hsp => ?_⟩
  have hl := len _ _ _ _ _ hsp
  have lim : s.heap.NoLimit := e0.mod.nolimit.keeps fun b o e => (e0.bs b o e).1
  obtain ⟨pm, ctv, ho⟩ := lmO_at e0.hok hf
  refine PySem.W.kla_callFunE hr.depth ho rfl S.co S.gen rfl (codeO_at e0.hok hc) ?_
  rw [hb pm ctv us (by rw [← r.length]; exact hl)]
  have hpk : ∀ x ∈ ps.zip us, F.scope.names.lookup x.1 = some .local ∨ F.scope.names.lookup x.1 = some .cell := fun ⟨n, v⟩ hx => S.par n (List.of_mem_zip hx).1
  refine wpAny_pure (newEnv_clo S.kind hpk (fun x hx => ?_) fun s1 x => ?_)
  · show F.cl.lookup x.1 = none
    cases q : F.cl.lookup x.1 with
    | none => rfl
    | some c =>
      have h1 := hcl x.1 c q
      rcases hpk x hx with h2 | h2 <;> rw [h1] at h2 <;> cases h2
  refine ⟨lim.keeps x.toInCall.keep, ?_⟩
  show codeAny _ _ (.expr e (envC F f s.heap.objs.size)) _ _
  refine PySem.W.kla_codeExpr ?_
  obtain ⟨t, ht, hq⟩ := hbody A outer s H vs ws Q E (hr.deeper _) hf hc C.len hsp
  have I : Inv (ncxC CX0 P w K mg base N F f A outer s H E) [] (startF N vs ws) H s1 := inv_startC S hr.hd e0 hl r C hcl x
  refine wpAny_mono (ht.nox.run [] _ (startF N vs ws) H _ I hq) (fun u s' hs => ?_) fun e s' hs => hs
  obtain ⟨v, H', J, rv, q⟩ := hs
  exact ⟨v, H', J.os, J.bare, J.base, J.hok, rv, q⟩
end
section
variable {X : Cx} {pins : List (Addr × Obj)} {σ : L2.St} {H : Hp} {s : Shared} {Q : VK} {us : List Value} {vs : List V} {ws : List (Option V)} {ps fr : List Str} {F : NF} {e0 : Expr} {f : Addr} {k j : Nat} {sp : List (Option V) → Sp}
theorem run_lam (Fn : LOk X.prog X.w X.K X.mg X.base k f F e0 ps fr sp) (hr : Room j X.A) (hk : k ≤ j) (I : Inv X pins σ H s) (hf : H f = some (LmO f F e0)) (hc : H F.c = some (CodeO F.c F.qual)) (C : Cel F fr ws H) (r : Vals vs us)
    (q : sp ws vs (remC F.cl H) (fun v H2 => (∀ b ∈ adr F.cl, H2 b = none) → Q v (backC F.cl H H2)) C8.E0) : wpAny (model X.prog X.w) X.A (call (.ref f) us) (EP X pins σ Q) X.xe s := by
  have e0 := I.env0
  have out : ∀ {a : Addr} {o : HO}, H a = some o → (∀ ob x, o ≠ .frz ob x) → a ∉ adr F.cl := fun e n z => by
    obtain ⟨x, ob, e'⟩ := C.all _ z
    rw [e] at e'
    exact n _ _ (Option.some.inj e')
  have rn : ∀ b, H b = none → remC F.cl H b = none := fun b e => by
    by_cases hb : b ∈ adr F.cl
    · exact rem_in hb
    · rw [rem_out hb]; exact e
  have e1 : Env0 X.prog X.w X.K X.mg X.base X.A X.stack s (remC F.cl H) := ⟨e0.frames, e0.mod, fun b o e => ⟨(e0.bs b o e).1, rn b (e0.bs b o e).2⟩, e0.bsz, e0.funs, fun b hb => rn b (e0.frf b hb), hok_rem e0.hok C.all, e0.bare⟩
  have nf : ∀ b ∈ adr F.cl, b ∉ frs X.stack := fun b hb z => by
    obtain ⟨x, o, e'⟩ := C.all b hb
    rw [e0.frf b z] at e'
    cases e'
  refine wpAny_call (codeAny_mono (Fn.run X.A X.stack s (remC F.cl H) us vs ws _ C8.E0 (hr.mono hk) e1 (by rw [rem_out (out hf (fun _ _ z => by unfold LmO at z; cases z))]; exact hf) (by rw [rem_out (out hc (fun _ _ z => by unfold CodeO at z; cases z))]; exact hc) (C.at e0.hok) r q) fun r s' hq => ?_)
  cases r with
  | error e => exact False.elim hq
  | ok fl =>
    cases fl with
    | ret u => exact I.after (ce_back e0.hok C.all nf hq)
    | next => exact False.elim hq
    | brk => exact False.elim hq
    | cont => exact False.elim hq
theorem lmAt_of {f : Addr} {F : NF} {e : Expr} (I : Inv X pins σ H s) (k : H f = some (LmO f F e)) : PySem.W.FnAt f s.heap := by
  obtain ⟨pm, ctv, ho⟩ := lmO_at I.hok k
  exact ⟨_, _, _, _, ho⟩
/-- f(..), f a name that holds a lambda made elsewhere -/
def tCallL (X : Cx) (j : Nat) (i : Nat) (t : TA) : TE := fun σ H Q => ∃ (f : Addr) (F : NF) (e : Expr) (ps fr : List Str) (ws : List (Option V)) (sp : List (Option V) → Sp) (k : Nat), σ[i]? = some (some (.ref f)) ∧ H f = some (LmO f F e) ∧ k ≤ j ∧ LOk X.prog X.w X.K X.mg X.base k f F e ps fr sp ∧
  t σ H fun vs H1 => H1 f = some (LmO f F e) ∧ H1 F.c = some (CodeO F.c F.qual) ∧ Cel F fr ws H1 ∧ CloC sp ws vs F H1 Q
theorem pe_callL {i : Nat} {x : Str} {t : TA} {e : Expr} {es : List Expr} {p pos : Pos} (hr : Room j X.A) (hN : X.N[i]? = some x) (hv : Vis X.env.scope x) (ha : PA X (e :: es) t)
    (hd : (x == ("__debug__" : Str)) = false := by decide) (hcd : (x == ("__classdict__" : Str)) = false := by decide)
    (he : starEach (e :: es) X.env = (false, eval e X.env) :: starEach es X.env := by rfl) (hpl : (backTo pos (starEach es X.env)).any (·.1) = false := by rfl) :
    PE X (.Call (.Name x p) (e :: es) [] pos) (tCallL X j i t) := by
  refine ⟨fun pins s σ H Q I h => ?_⟩
  obtain ⟨f, F, e2, ps, fr, ws, sp, k, hs, hf, hk, Fn, ht⟩ := h
  refine wpAny_Call_Name_kw (thn ((pe_var (pos := p) hN hv hd hcd).run pins s σ H (fun v H1 => v = .ref f ∧ H1 = H) I ⟨.ref f, hs, rfl, rfl⟩) fun u s1 ⟨v, H1, I1, r1, q1⟩ => ?_)
  obtain ⟨ev, eH⟩ := q1
  subst ev
  rw [eH] at I1
  obtain rfl : u = Value.ref f := r1
  refine PySem.W.callWith_F (first := []) (lmAt_of I1 hf) (thn (ha.run pos pins s1 σ H _ I1 ht) fun us s2 ⟨vs, H2, I2, r, h1, h2, C, q⟩ => ⟨lmAt_of I2 h1, ?_⟩) he hpl
  show wpAny _ _ (call (.ref f) us) _ _ _
  exact run_lam Fn hr hk I2 h1 h2 C r q
end
end Lm
namespace Lm
open PySem PySem.Spec PyProof.Rows L2 LamX NdefX Clo
section
variable {X : Cx} {pins : List (Addr × Obj)} {σ : L2.St} {H : Hp} {s : Shared}
/-- a lambda just made is known from now on -/
theorem inv_lm {F : NF} {e0 : Expr} {t' : Nat} {pm ctv : Value} (I : Inv X pins σ H s) :
    Inv X pins σ (upd H s.heap.objs.size (LmO s.heap.objs.size F e0)) { s with heap := s.heap.push (PySem.W.kla_obj F.name F.qual F.params e0 F.scope F.cl pm F.c ctv), toks := t' } := by
  refine I.laid (a := s.heap.objs.size) (fun b u e => Heap.get?_push_of_some _ e) (Nat.le_refl _) ?_
  have e : (s.heap.push (PySem.W.kla_obj F.name F.qual F.params e0 F.scope F.cl pm F.c ctv)).get? s.heap.objs.size = some (PySem.W.kla_obj F.name F.qual F.params e0 F.scope F.cl pm F.c ctv) := Heap.get?_push_size _ rfl
  exact ⟨⟨pm, ctv, e⟩, ⟨_, e⟩, fun h1 h2 ⟨p, t, z⟩ st => ⟨p, t, st _ z⟩⟩
abbrev lamF (X : Cx) (params : Arguments) (scope : Scope) (c' : Addr) : NF := ⟨"<lambda>", X.env.qual ++ "<lambda>", params, [], scope, cloFrom X.env.cells scope.names [], c'⟩
theorem lam_made {T : List NTab} {nm : Nat → Nat → Str} {c P : Addr} {params : Arguments} {body : Expr} {scope : Scope} {pos : Pos} {E : Value → Shared → Prop} {Q : Value → Shared → Prop} (I : Inv X pins σ H s) (TB : TabB X.base X.mg c P) (hcode : X.env.code = .ref c)
    (hm : (P, nm) ∈ T) (hn : nm pos.line pos.col = X.env.qual ++ "<lambda>") (hu : ∀ p ∈ T, p.1 = P → p.2 = nm) (hT : TabsN T H) (hdef : defaultsOf params X.env = ([], [])) (hfree : ∀ y ∈ scope.names, y.2 = .free → ∃ c, X.env.cells.lookup y.1 = some c)
    (h : ∀ (f c' : Addr) (H1 : Hp) (s' : Shared), Inv X pins σ H1 s' → ExtN H H1 → (∀ b, H1 b = Option.none → H b = Option.none) → TabsN T H1 → H f = none → H1 f = some (LmO f (lamF X params scope c') body) → H1 c' = some (CodeO c' (X.env.qual ++ "<lambda>")) → Q (.ref f) s') :
    wpAny (model X.prog X.w) X.A (eval (.Lambda params body scope pos) X.env) Q E s := by
  obtain ⟨ps, hP, ht, ha⟩ := (show TabN H P nm from hT _ hm)
  refine PySem.W.kla_eval hdef ?_
  have bP : s.heap.BuiltinsAt X.mg P := TB.bm.keeps I.bk
  have hP' : s.heap.get? P = some { cls := .none, data := .fields ps } := I.hok P _ hP
  cases hc : codeAmong pos ps.toList with
  | none =>
    refine PySem.W.kla_makeFunction (mg := X.mg) (c := c) (P := P) (ps := ps) (closure_ok hfree) I.ok.glob (I.mod.glob.keeps I.bk) hcode (TB.code.keeps I.bk) hP' ht hc TB.gP bP fun c' ctv h' tk hx hge hlt hrec htb => ?_
    obtain ⟨c2, oc, vs, t, e2, hoc, hd, hv⟩ := hrec
    cases e2
    have nC : H c' = none := I.hok.fresh hge
    have I1 := inv_table (t' := tk) (more := #[rawInt pos.line, rawInt pos.col, .ref c']) (h' := h') I hP (fun b o hb e => hx b o hb e) htb hge ⟨oc, vs, t, hoc, hd, hv⟩
    have hE : ExtN H (upd (upd H P (.tbl (ps ++ #[rawInt pos.line, rawInt pos.col, .ref c']))) c' (CodeO c' (X.env.qual ++ "<lambda>"))) := fun b o e n => by
      rw [upd_ne (ne_of_none e nC), upd_ne (fun z => n ps (Option.some.inj (e.symm.trans (by rw [z]; exact hP))))]
      exact e
    have eL : (ps ++ #[rawInt pos.line, rawInt pos.col, .ref c']).toList = ps.toList ++ [rawInt pos.line, rawInt pos.col, .ref c'] := by simp
    have T1 : TabsN T (upd (upd H P (.tbl (ps ++ #[rawInt pos.line, rawInt pos.col, .ref c']))) c' (CodeO c' (X.env.qual ++ "<lambda>"))) := fun p hp => by
      by_cases hb : p.1 = P
      · rw [hu p hp hb, hb]
        refine ⟨_, by rw [upd_ne (ne_of_none hP nC), upd_same], by rw [eL]; exact PySem.TriplesOk_snoc _ _ _ _ ht, fun p' cv hcv => ?_⟩
        rw [eL] at hcv
        rcases among_app2 _ ht hcv with z | ⟨z, z1, z2⟩
        · obtain ⟨c0, e1, e2⟩ := ha p' cv z
          exact ⟨c0, e1, hE _ _ e2 codeO_ne⟩
        · refine ⟨c', z, ?_⟩
          rw [← z1, ← z2, hn]
          exact upd_same
      · obtain ⟨ps', a1, a2, a3⟩ := hT p hp
        refine ⟨ps', by rw [upd_ne (ne_of_none a1 nC), upd_ne hb]; exact a1, a2, fun p' cv hcv => ?_⟩
        obtain ⟨c0, e1, e2⟩ := a3 p' cv hcv
        exact ⟨c0, e1, hE _ _ e2 codeO_ne⟩
    have nF := I1.hok.fresh (Nat.le_refl _)
    have I2 := inv_lm (F := lamF X params scope c') (e0 := body) (t' := tk) (pm := (X.mg "__name__").getD .none) (ctv := ctv) I1
    refine h h'.objs.size c' _ _ I2 (fun b o e n => ?_) (fun b e => upd_none (upd_none (upd_none e))) (T1.ext fun b o e => ?_) (I.hok.fresh (Nat.le_trans hge (Nat.le_of_lt hlt))) upd_same ?_
    · have e1 := hE b o e n
      exact (upd_ne (ne_of_none e1 nF)).trans e1
    · exact (upd_ne (ne_of_none e nF)).trans e
    · exact (upd_ne (Nat.ne_of_lt hlt)).trans upd_same
  | some cv =>
    obtain ⟨c', e, hco⟩ := ha pos cv hc
    subst e
    rw [hn] at hco
    refine PySem.W.kla_makeFunctionHit (mg := X.mg) (c := c) (P := P) (ps := ps) (closure_ok hfree) I.ok.glob (I.mod.glob.keeps I.bk) hcode (TB.code.keeps I.bk) hP' ht hc bP fun ctv h' tk hx hsz => ?_
    have I1 : Inv X pins σ H { s with heap := h', toks := tk } := I.kept hx
    have nF : H h'.objs.size = none := I1.hok.fresh (Nat.le_refl _)
    have I2 := inv_lm (F := lamF X params scope c') (e0 := body) (t' := tk) (pm := (X.mg "__name__").getD .none) (ctv := ctv) I1
    refine h h'.objs.size c' _ _ I2 (fun b o e n => ?_) (fun b e => upd_none e) (hT.ext fun b o e => ?_) nF upd_same ?_
    · exact (upd_ne (ne_of_none e nF)).trans e
    · exact (upd_ne (ne_of_none e nF)).trans e
    · exact (upd_ne (ne_of_none hco nF)).trans hco
/-- lambda params: body, as a value -/
def tLamM (X : Cx) (T : List NTab) (params : Arguments) (body : Expr) (scope : Scope) : TE := fun _ H Q => TabsN T H ∧ ∀ (f c' : Addr) (H1 : Hp), ExtN H H1 → (∀ b, H1 b = Option.none → H b = Option.none) → TabsN T H1 → H f = none → H1 f = some (LmO f (lamF X params scope c') body) → H1 c' = some (CodeO c' (X.env.qual ++ "<lambda>")) → Q (.ref f) H1
end
section
variable {X : Cx}
theorem pe_lamM {T : List NTab} {nm : Nat → Nat → Str} {c P : Addr} {params : Arguments} {body : Expr} {scope : Scope} {pos : Pos} (TB : TabB X.base X.mg c P) (hcode : X.env.code = .ref c) (hm : (P, nm) ∈ T) (hn : nm pos.line pos.col = X.env.qual ++ "<lambda>") (hu : ∀ p ∈ T, p.1 = P → p.2 = nm)
    (hdef : defaultsOf params X.env = ([], [])) (hfree : ∀ y ∈ scope.names, y.2 = .free → X.env.scope.names.lookup y.1 = some .cell ∨ X.env.scope.names.lookup y.1 = some .free) :
    PE X (.Lambda params body scope pos) (tLamM X T params body scope) := by
  refine ⟨fun pins s σ H Q I h => ?_⟩
  obtain ⟨hT, h⟩ := h
  have hfr : ∀ y ∈ scope.names, y.2 = .free → ∃ c, X.env.cells.lookup y.1 = some c := fun y hy e => (hfree y hy e).elim (fun z => I.ok.has _ (.inl z)) fun z => I.ok.has _ (.inr z)
  exact lam_made I TB hcode hm hn hu hT hdef hfr fun f c' H1 s' I1 eN nn T1 f0 f1 c1 => ⟨.ref f, H1, I1, rfl, h f c' H1 eN nn T1 f0 f1 c1⟩
end
end Lm

/-! The order of a search by breadth, and its image in a quotient (own mathematics, for k24 and k41). -/
namespace Bq
section
variable {α : Type} [DecidableEq α]
/-- x at the end, if it is new -/
def ad (acc : List α) (x : α) : List α := if x ∈ acc then acc else acc ++ [x]
def add (acc l : List α) : List α := l.foldl ad acc
theorem add_nil (acc : List α) : add acc [] = acc := rfl
theorem add_cons (acc : List α) (x : α) (l : List α) : add acc (x :: l) = add (ad acc x) l := rfl
theorem add_app (acc l m : List α) : add acc (l ++ m) = add (add acc l) m := List.foldl_append
theorem ad_pre (acc : List α) (x : α) : ∃ r, ad acc x = acc ++ r := by
  unfold ad
  split
  · exact ⟨[], by simp⟩
  · exact ⟨[x], rfl⟩
theorem add_pre : ∀ (l acc : List α), ∃ r, add acc l = acc ++ r
  | [], acc => ⟨[], by simp [add_nil]⟩
  | x :: l, acc => by
    obtain ⟨r, hr⟩ := ad_pre acc x
    obtain ⟨r2, hr2⟩ := add_pre l (ad acc x)
    exact ⟨r ++ r2, by rw [add_cons, hr2, hr, List.append_assoc]⟩
theorem mem_ad {acc : List α} {x y : α} : y ∈ ad acc x ↔ y ∈ acc ∨ y = x := by
  unfold ad
  split
  · rename_i h
    exact ⟨.inl, fun k => k.elim id (fun e => e ▸ h)⟩
  · simp
theorem mem_add : ∀ {l acc : List α} {y : α}, y ∈ add acc l ↔ y ∈ acc ∨ y ∈ l
  | [], acc, y => by simp [add_nil]
  | x :: l, acc, y => by
    rw [add_cons, mem_add, mem_ad, List.mem_cons, or_assoc]
theorem nodup_ad {acc : List α} {x : α} (h : acc.Nodup) : (ad acc x).Nodup := by
  unfold ad
  split
  · exact h
  · rename_i k
    rw [List.nodup_append]
    exact ⟨h, by simp, fun a ha b hb e => k (by rw [← List.mem_singleton.mp hb, ← e]; exact ha)⟩
theorem nodup_add : ∀ {l acc : List α}, acc.Nodup → (add acc l).Nodup
  | [], _, h => h
  | x :: l, acc, h => nodup_add (l := l) (nodup_ad h)
/-- what is there already adds nothing -/
theorem add_old : ∀ {l acc : List α}, (∀ x ∈ l, x ∈ acc) → add acc l = acc
  | [], _, _ => rfl
  | x :: l, acc, h => by
    have e : ad acc x = acc := if_pos (h x List.mem_cons_self)
    rw [add_cons, e]
    exact add_old fun y hy => h y (List.mem_cons_of_mem _ hy)
/-- the rows of the first k -/
def Ak (s : α) (r : α → List α) (N : List α) (k : Nat) : List α := add [s] ((N.take k).map r).flatten
theorem ak_zero (s : α) (r : α → List α) (N : List α) : Ak s r N 0 = [s] := rfl
theorem ak_succ {s : α} {r : α → List α} {N : List α} {k : Nat} {x : α} (h : N[k]? = some x) : Ak s r N (k + 1) = add (Ak s r N k) (r x) := by
  unfold Ak
  have e : N.take (k + 1) = N.take k ++ [x] := by rw [List.take_add_one, h]; rfl
  rw [e, List.map_append, List.flatten_append, add_app]
  show add _ (r x ++ []) = _
  rw [List.append_nil]
/-- the order of a search: all rows are in, and each stands in the row of an earlier one -/
structure Ord (s : α) (r : α → List α) (N : List α) : Prop where
  all : Ak s r N N.length = N
  ear : ∀ k, k < N.length → k < (Ak s r N k).length
theorem ak_pre {s : α} {r : α → List α} {N : List α} (h : Ord s r N) (k : Nat) : ∃ t, N = Ak s r N k ++ t := by
  have e : N = N.take k ++ N.drop k := (List.take_append_drop k N).symm
  have : Ak s r N N.length = add (Ak s r N k) ((N.drop k).map r).flatten := by
    unfold Ak
    rw [← add_app, ← List.flatten_append, ← List.map_append, List.take_append_drop, List.take_length]
  obtain ⟨t, ht⟩ := add_pre ((N.drop k).map r).flatten (Ak s r N k)
  exact ⟨t, by rw [← ht, ← this, h.all]⟩
theorem ak_get {s : α} {r : α → List α} {N : List α} (h : Ord s r N) {k : Nat} (hk : k < N.length) : N[k]? = (Ak s r N k)[k]? := by
  obtain ⟨t, ht⟩ := ak_pre h k
  have e : N[k]? = (Ak s r N k ++ t)[k]? := by rw [← ht]
  rw [e, List.getElem?_append_left (h.ear k hk)]
/-- there is one order only -/
theorem ord_uniq {s : α} {r : α → List α} {N M : List α} (h : Ord s r N) (g : Ord s r M) : N = M := by
  have key : ∀ k, k ≤ N.length → k ≤ M.length → Ak s r N k = Ak s r M k := by
    intro k
    induction k with
    | zero => intro _ _; rfl
    | succ k ih =>
      intro hN hM
      have e := ih (Nat.le_of_succ_le hN) (Nat.le_of_succ_le hM)
      have a := ak_get h (k := k) (by omega)
      have b := ak_get g (k := k) (by omega)
      rw [e, ← b] at a
      have x := List.getElem?_eq_getElem (l := M) (i := k) (by omega)
      rw [ak_succ (a.trans x), ak_succ x, e]
  rcases Nat.lt_trichotomy N.length M.length with c | c | c
  · have := g.ear _ c
    rw [← key _ (Nat.le_refl _) (Nat.le_of_lt c), h.all] at this
    omega
  · have := key N.length (Nat.le_refl _) (by omega)
    rw [h.all, c, g.all] at this
    exact this
  · have := h.ear _ c
    rw [key _ (Nat.le_of_lt c) (Nat.le_refl _), g.all] at this
    omega
/-- a prefix, by the first half alone -/
theorem ak_pre0 {s : α} {r : α → List α} {N : List α} (h : Ak s r N N.length = N) (k : Nat) : ∃ t, N = Ak s r N k ++ t := by
  have : Ak s r N N.length = add (Ak s r N k) ((N.drop k).map r).flatten := by
    unfold Ak
    rw [← add_app, ← List.flatten_append, ← List.map_append, List.take_append_drop, List.take_length]
  obtain ⟨t, ht⟩ := add_pre ((N.drop k).map r).flatten (Ak s r N k)
  exact ⟨t, by rw [← ht, ← this, h]⟩
variable {β : Type} [DecidableEq β]
theorem map_ad (c : α → β) (acc : List α) (x : α) : add [] ((ad acc x).map c) = ad (add [] (acc.map c)) (c x) := by
  unfold ad
  by_cases h : x ∈ acc
  · rw [if_pos h, if_pos (mem_add.mpr (.inr (List.mem_map.mpr ⟨x, h, rfl⟩)))]
  · rw [if_neg h, List.map_append, add_app]
    rfl
theorem map_add (c : α → β) : ∀ (l acc : List α), add [] ((add acc l).map c) = add (add [] (acc.map c)) (l.map c)
  | [], _ => rfl
  | x :: l, acc => by
    rw [add_cons, map_add c l, map_ad, List.map_cons, add_cons]
theorem add_dup (q : β → List β) : ∀ (l D acc : List β), (∀ b ∈ D, ∀ y ∈ q b, y ∈ acc) → add acc (l.map q).flatten = add acc (((add D l).drop D.length).map q).flatten
  | [], D, acc, _ => by rw [add_nil, List.drop_length]
  | b :: l, D, acc, h => by
    rw [List.map_cons, List.flatten_cons, add_app]
    by_cases hb : b ∈ D
    · rw [add_old (h b hb), add_dup q l D acc h, add_cons, show ad D b = D from if_pos hb]
    · have e : ad D b = D ++ [b] := if_neg hb
      obtain ⟨t, ht⟩ := add_pre l (D ++ [b])
      rw [add_dup q l (D ++ [b]) (add acc (q b)) (fun x hx y hy => ?_), add_cons, e, ht]
      · rw [List.drop_left, List.append_assoc, List.drop_left]
        show _ = add acc (q b ++ (t.map q).flatten)
        rw [add_app]
      · rcases List.mem_append.mp hx with hx | hx
        · exact mem_add.mpr (.inl (h x hx y hy))
        · rw [List.mem_singleton.mp hx] at hy
          exact mem_add.mpr (.inr hy)
theorem len_ad (acc : List α) (x : α) : (ad acc x).length ≤ acc.length + 1 := by
  unfold ad
  split
  · exact Nat.le_succ _
  · simp
/-- the places of the images, by the place where they stand first -/
theorem first_at (c : α → β) (N : List α) (k : Nat) : ∀ n, n ≤ N.length → k < (add [] ((N.take n).map c)).length → ∃ i, i < n ∧ (add [] ((N.take i).map c)).length ≤ k ∧ k < (add [] ((N.take (i + 1)).map c)).length
  | 0, _, h => by
    rw [List.take_zero] at h
    exact absurd h (Nat.not_lt_zero _)
  | n + 1, hn, h => by
    rcases Nat.lt_or_ge k (add [] ((N.take n).map c)).length with z | z
    · obtain ⟨i, a, b⟩ := first_at c N k n (Nat.le_of_succ_le hn) z
      exact ⟨i, Nat.lt_succ_of_lt a, b⟩
    · exact ⟨n, Nat.lt_succ_self n, z, h⟩
/-- THE IMAGE of an order in a quotient is the quotient's order -/
theorem ord_map {s : α} {r : α → List α} {N : List α} {c : α → β} {q : β → List β} (h : Ord s r N) (hq : ∀ x ∈ N, q (c x) = (r x).map c) : Ord (c s) q (add [] (N.map c)) := by
  generalize hM : add [] (N.map c) = M
  have hF : add [c s] (M.map q).flatten = M := by
    have e1 : M = add [c s] (((N.map r).flatten).map c) := by
      have := map_add c (N.map r).flatten [s]
      have e : add [s] (N.map r).flatten = N := by
        have := h.all
        unfold Ak at this
        rwa [List.take_length] at this
      rw [e, hM] at this
      exact this
    have e2 : ((N.map r).flatten).map c = ((N.map c).map q).flatten := by
      rw [List.map_flatten, List.map_map, List.map_map]
      congr 1
      exact List.map_congr_left fun x hx => (hq x hx).symm
    have e3 := add_dup q (N.map c) [] [c s] (fun b hb => by cases hb)
    rw [List.length_nil, List.drop_zero, hM] at e3
    rw [← e3, ← e2, ← e1]
  have hA : Ak (c s) q M M.length = M := by
    unfold Ak
    rw [List.take_length]
    exact hF
  refine ⟨hA, fun k hk => ?_⟩
  have nd : M.Nodup := by rw [← hM]; exact nodup_add List.nodup_nil
  obtain ⟨i, i1, i2, i3⟩ := first_at c N k N.length (Nat.le_refl _) (by rw [List.take_length, hM]; exact hk)
  have hx := List.getElem?_eq_getElem i1
  generalize N[i] = x at hx
  have e : N.take (i + 1) = N.take i ++ [x] := by rw [List.take_add_one, hx]; rfl
  have ep : add [] ((N.take (i + 1)).map c) = ad (add [] ((N.take i).map c)) (c x) := by
    rw [e, List.map_append, add_app]
    rfl
  -- the images so far are the first k
  obtain ⟨t, ht⟩ : ∃ t, M = add [] ((N.take (i + 1)).map c) ++ t := by
    have : M = add (add [] ((N.take (i + 1)).map c)) ((N.drop (i + 1)).map c) := by
      rw [← add_app, ← List.map_append, List.take_append_drop, hM]
    obtain ⟨t, ht⟩ := add_pre ((N.drop (i + 1)).map c) (add [] ((N.take (i + 1)).map c))
    exact ⟨t, by rw [← ht]; exact this⟩
  generalize hP : add [] ((N.take i).map c) = P at i2 ep
  have hl := len_ad P (c x)
  rw [← ep] at hl
  have hPk : P.length = k := by omega
  have hn : c x ∉ P := fun z => by
    have : ad P (c x) = P := if_pos z
    rw [ep, this] at i3
    omega
  have eP : ad P (c x) = P ++ [c x] := if_neg hn
  rw [ep, eP] at ht
  have tk : M.take k = P := by rw [ht, List.append_assoc, ← hPk, List.take_left]
  have mk : M[k]? = some (c x) := by
    rw [ht, List.append_assoc, ← hPk, List.getElem?_append_right (Nat.le_refl _)]
    simp
  -- it stands in the row of an earlier one
  have hin : c x ∈ Ak (c s) q M k := by
    have hxN : x ∈ Ak s r N i := by
      have := ak_get h i1
      rw [hx] at this
      exact List.mem_of_getElem? this.symm
    unfold Ak at hxN ⊢
    rw [mem_add] at hxN ⊢
    rcases hxN with z | z
    · rw [List.mem_singleton.mp z]
      exact .inl (List.mem_singleton.mpr rfl)
    · obtain ⟨l, hl, hxl⟩ := List.mem_flatten.mp z
      obtain ⟨y, hy, rfl⟩ := List.mem_map.mp hl
      refine .inr (List.mem_flatten.mpr ⟨q (c y), List.mem_map.mpr ⟨c y, ?_, rfl⟩, ?_⟩)
      · rw [tk, ← hP]
        exact mem_add.mpr (.inr (List.mem_map.mpr ⟨y, hy, rfl⟩))
      · rw [hq y (List.mem_of_mem_take hy)]
        exact List.mem_map.mpr ⟨x, hxl, rfl⟩
  obtain ⟨u, hu⟩ := ak_pre0 hA k
  rcases Nat.lt_or_ge k (Ak (c s) q M k).length with z | z
  · exact z
  · exfalso
    obtain ⟨j, hj⟩ := List.mem_iff_getElem?.mp hin
    have hjl := (List.getElem?_eq_some_iff.mp hj).1
    have mj : M[j]? = some (c x) := by
      have e : M[j]? = (Ak (c s) q M k ++ u)[j]? := by rw [← hu]
      rw [e, List.getElem?_append_left hjl, hj]
    have hjM := (List.getElem?_eq_some_iff.mp mj).1
    have := (List.pairwise_iff_getElem.mp nd) j k hjM hk (by omega)
    rw [(List.getElem?_eq_some_iff.mp mj).2, (List.getElem?_eq_some_iff.mp mk).2] at this
    exact this rfl
end
end Bq
/-! Numbers in the order of first occurrence (own mathematics, for k24, k41 and every `numbered`). -/
namespace Bq
section
variable {α : Type} [DecidableEq α]
/-- the number of each value: its place among the values that differ -/
def num (xs : List α) : List Nat := xs.map fun x => (add [] xs).idxOf x
theorem get_idx {l : List α} {x : α} (h : x ∈ l) : l[l.idxOf x]? = some x := by
  have lt := List.idxOf_lt_length_iff.mpr h
  rw [List.getElem?_eq_getElem lt, List.getElem_idxOf]
theorem idx_inj {l : List α} {x y : α} (hx : x ∈ l) (hy : y ∈ l) (h : l.idxOf x = l.idxOf y) : x = y := by
  have a := get_idx hx
  have b := get_idx hy
  rw [h, b] at a
  exact (Option.some.inj a).symm
theorem num_eq {xs : List α} {i j : Nat} {x y : α} (hi : xs[i]? = some x) (hj : xs[j]? = some y) : (num xs)[i]? = (num xs)[j]? ↔ x = y := by
  unfold num
  rw [List.getElem?_map, List.getElem?_map, hi, hj]
  have mi : x ∈ add [] xs := mem_add.mpr (.inr (List.mem_of_getElem? hi))
  have mj : y ∈ add [] xs := mem_add.mpr (.inr (List.mem_of_getElem? hj))
  exact ⟨fun h => idx_inj mi mj (Option.some.inj h), fun h => by rw [h]⟩
/-- a number that isn't new is less than what there was -/
theorem num_lt {xs : List α} {x : α} (h : x ∈ xs) : (add [] xs).idxOf x < (add [] xs).length := List.idxOf_lt_length_iff.mpr (mem_add.mpr (.inr h))
/-- the loop: what is there keeps its number -/
theorem idx_pre {l t : List α} {x : α} (h : x ∈ l) : (l ++ t).idxOf x = l.idxOf x := by
  rw [List.idxOf_append, if_pos h]
theorem idx_new {l : List α} {x : α} (h : x ∉ l) : (l ++ [x]).idxOf x = l.length := by
  rw [List.idxOf_append, if_neg h]
  simp
/-- every number below the count of the values occurs -/
theorem num_all {xs : List α} {k : Nat} (h : k < (add [] xs).length) : ∃ i : Nat, (num xs)[i]? = some k := by
  have nd : (add [] xs).Nodup := nodup_add List.nodup_nil
  have hm : (add [] xs)[k] ∈ xs := (mem_add.mp (List.getElem_mem h)).elim (fun z => by cases z) id
  obtain ⟨i, hi⟩ := List.mem_iff_getElem?.mp hm
  refine ⟨i, ?_⟩
  unfold num
  rw [List.getElem?_map, hi]
  have e := get_idx (List.getElem_mem h)
  have e2 := List.getElem?_eq_getElem h
  have lt := List.idxOf_lt_length_iff.mpr (List.getElem_mem h)
  show some _ = some k
  congr 1
  rcases Nat.lt_trichotomy ((add [] xs).idxOf (add [] xs)[k]) k with c | c | c
  · have := (List.pairwise_iff_getElem.mp nd) _ k lt h c
    exact absurd (by rw [List.getElem?_eq_getElem lt] at e; exact Option.some.inj e) this
  · exact c
  · have := (List.pairwise_iff_getElem.mp nd) k _ h lt c
    exact absurd (by rw [List.getElem?_eq_getElem lt] at e; exact (Option.some.inj e).symm) this
end
end Bq
/-! Refinement of a partition (own mathematics, for k24 and k41): states below n, labels, moves by letters below l. -/
namespace Mo
section
variable {κ : Type} (lab : Nat → κ) (mv : Nat → Nat → Nat) (l : Nat)
/-- alike for k rounds -/
def Ek : Nat → Nat → Nat → Prop
  | 0, i, j => lab i = lab j
  | k + 1, i, j => Ek k i j ∧ ∀ a, a < l → Ek k (mv i a) (mv j a)
theorem ek_refl : ∀ k i, Ek lab mv l k i i
  | 0, _ => rfl
  | k + 1, i => ⟨ek_refl k i, fun a _ => ek_refl k (mv i a)⟩
theorem ek_symm : ∀ k {i j}, Ek lab mv l k i j → Ek lab mv l k j i
  | 0, _, _, h => Eq.symm h
  | k + 1, _, _, h => ⟨ek_symm k h.1, fun a ha => ek_symm k (h.2 a ha)⟩
theorem ek_trans : ∀ k {i j m}, Ek lab mv l k i j → Ek lab mv l k j m → Ek lab mv l k i m
  | 0, _, _, _, h, g => Eq.trans h g
  | k + 1, _, _, _, h, g => ⟨ek_trans k h.1 g.1, fun a ha => ek_trans k (h.2 a ha) (g.2 a ha)⟩
theorem ek_le {k m : Nat} (h : k ≤ m) {i j : Nat} (e : Ek lab mv l m i j) : Ek lab mv l k i j := by
  induction m with
  | zero => rw [Nat.le_zero.mp h]; exact e
  | succ m ih =>
    rcases Nat.lt_or_ge k (m + 1) with c | c
    · exact ih (by omega) e.1
    · rw [show k = m + 1 by omega]; exact e
/-- the k-th round changes nothing more, among the states below n -/
def Stb (n k : Nat) : Prop := ∀ i j, i < n → j < n → Ek lab mv l k i j → Ek lab mv l (k + 1) i j
variable {lab mv l}
theorem stb_all {n k : Nat} (hc : ∀ i a, i < n → a < l → mv i a < n) (h : Stb lab mv l n k) : ∀ m, k ≤ m → ∀ i j, i < n → j < n → Ek lab mv l k i j → Ek lab mv l m i j := by
  intro m
  induction m with
  | zero => intro hm i j _ _ e; rw [Nat.le_zero.mp hm] at e; exact e
  | succ m ih =>
    intro hm i j hi hj e
    rcases Nat.lt_or_ge k (m + 1) with c | c
    · have s := h i j hi hj e
      exact ⟨ih (by omega) i j hi hj e, fun a ha => ih (by omega) _ _ (hc i a hi ha) (hc j a hj ha) (s.2 a ha)⟩
    · rw [show k = m + 1 by omega] at e; exact e
/-- least of its class -/
def Lst (n k i : Nat) : Prop := i < n ∧ ∀ j, j < i → ¬ Ek lab mv l k j i
theorem lst_of (n k : Nat) : ∀ i, i < n → ∃ j, j ≤ i ∧ Lst (lab := lab) (mv := mv) (l := l) n k j ∧ Ek lab mv l k j i := by
  intro i
  induction i using Nat.strongRecOn with
  | ind i ih =>
    intro hi
    by_cases h : ∃ j, j < i ∧ Ek lab mv l k j i
    · obtain ⟨j, hj, e⟩ := h
      obtain ⟨j', a, b, c⟩ := ih j hj (by omega)
      exact ⟨j', by omega, b, ek_trans lab mv l k c e⟩
    · exact ⟨i, Nat.le_refl _, ⟨hi, fun j hj e => h ⟨j, hj, e⟩⟩, ek_refl lab mv l k i⟩
open Classical in
/-- the least of all classes -/
noncomputable def Ls (lab : Nat → κ) (mv : Nat → Nat → Nat) (l n k : Nat) : List Nat := (List.range n).filter fun i => decide (Lst (lab := lab) (mv := mv) (l := l) n k i)
open Classical in
theorem mem_ls {n k i : Nat} : i ∈ Ls lab mv l n k ↔ Lst (lab := lab) (mv := mv) (l := l) n k i := by
  unfold Ls
  rw [List.mem_filter, List.mem_range, decide_eq_true_iff]
  exact ⟨fun h => h.2, fun h => ⟨h.1, h⟩⟩
theorem sub_ls {n k i : Nat} (h : i ∈ Ls lab mv l n k) : i ∈ Ls lab mv l n (k + 1) := by
  rw [mem_ls] at h ⊢
  exact ⟨h.1, fun j hj e => h.2 j hj e.1⟩
theorem nd_ls (n k : Nat) : (Ls lab mv l n k).Nodup := List.Pairwise.filter _ List.nodup_range
theorem sub_len : ∀ {a b : List Nat}, a.Nodup → (∀ x ∈ a, x ∈ b) → a.length ≤ b.length
  | [], _, _, _ => Nat.zero_le _
  | x :: a, b, nd, h => by
    obtain ⟨n1, n2⟩ := List.nodup_cons.mp nd
    have hx := h x List.mem_cons_self
    have := sub_len (a := a) (b := b.erase x) n2 fun y hy => (List.mem_erase_of_ne (fun e : y = x => n1 (by rw [← e]; exact hy))).mpr (h y (List.mem_cons_of_mem _ hy))
    rw [List.length_erase_of_mem hx] at this
    have := List.length_pos_of_mem hx
    rw [List.length_cons]
    omega
theorem sub_eq {a b : List Nat} (nd : a.Nodup) (h : ∀ x ∈ a, x ∈ b) (hl : b.length ≤ a.length) : ∀ x ∈ b, x ∈ a := by
  intro x hx
  by_cases c : x ∈ a
  · exact c
  · exfalso
    have := sub_len (a := x :: a) (b := b) (List.nodup_cons.mpr ⟨c, nd⟩) fun y hy => (List.mem_cons.mp hy).elim (fun e => by rw [e]; exact hx) (h y)
    rw [List.length_cons] at this
    omega
/-- as many classes as before: nothing has changed -/
theorem stb_of {n k : Nat} (h : (Ls lab mv l n (k + 1)).length ≤ (Ls lab mv l n k).length) : Stb lab mv l n k := by
  intro i j hi hj e
  obtain ⟨i', _, a1, a2⟩ := lst_of (lab := lab) (mv := mv) (l := l) n (k + 1) i hi
  obtain ⟨j', _, b1, b2⟩ := lst_of (lab := lab) (mv := mv) (l := l) n (k + 1) j hj
  have sub := sub_eq (nd_ls n k) (fun x hx => sub_ls hx) h
  have a3 := mem_ls.mp (sub i' (mem_ls.mpr a1))
  have b3 := mem_ls.mp (sub j' (mem_ls.mpr b1))
  have ee : Ek lab mv l k i' j' := ek_trans lab mv l k a2.1 (ek_trans lab mv l k e (ek_symm lab mv l k b2.1))
  rcases Nat.lt_trichotomy i' j' with c | c | c
  · exact absurd ee (b3.2 i' c)
  · rw [c] at a2
    exact ek_trans lab mv l (k + 1) (ek_symm lab mv l (k + 1) a2) b2
  · exact absurd (ek_symm lab mv l k ee) (a3.2 j' c)
/-- after n rounds nothing changes -/
theorem stb_n (n : Nat) (hc : ∀ i a, i < n → a < l → mv i a < n) : Stb lab mv l n n := by
  have key : ∀ k, (∃ j, j < k ∧ Stb lab mv l n j) ∨ k ≤ (Ls lab mv l n k).length := by
    intro k
    induction k with
    | zero => exact .inr (Nat.zero_le _)
    | succ k ih =>
      rcases ih with ⟨j, a, b⟩ | h
      · exact .inl ⟨j, Nat.lt_succ_of_lt a, b⟩
      · rcases Nat.lt_or_ge (Ls lab mv l n k).length (Ls lab mv l n (k + 1)).length with c | c
        · exact .inr (by omega)
        · exact .inl ⟨k, Nat.lt_succ_self k, stb_of c⟩
  have up : ∀ j, j ≤ n → Stb lab mv l n j → Stb lab mv l n n := fun j hj s a b ha hb e => stb_all hc s (n + 1) (by omega) a b ha hb (ek_le lab mv l hj e)
  rcases key (n + 1) with ⟨j, a, b⟩ | h
  · exact up j (by omega) b
  · exfalso
    have : (Ls lab mv l n (n + 1)).length ≤ n := by
      have := sub_len (nd_ls (lab := lab) (mv := mv) (l := l) n (n + 1)) (b := List.range n) fun x hx => List.mem_range.mpr (mem_ls.mp hx).1
      rwa [List.length_range] at this
    omega
end
end Mo
/-! The program's refinement (numbers in the order of first occurrence) is the refinement of Moore.lean (own mathematics, for k24 and k41). -/
namespace Bq
open Mo
section
variable {α : Type} [DecidableEq α]
theorem num_len (xs : List α) : (num xs).length = xs.length := by unfold num; rw [List.length_map]
/-- as many values as places where one stands first -/
theorem add_count (xs : List α) : (add [] xs).length = ((List.range xs.length).filter fun i => decide (∀ j, j < i → xs[j]? ≠ xs[i]?)).length := by
  have gen : ∀ n, n ≤ xs.length → (add [] (xs.take n)).length = ((List.range n).filter fun i => decide (∀ j, j < i → xs[j]? ≠ xs[i]?)).length := by
    intro n
    induction n with
    | zero => intro _; rfl
    | succ n ih =>
      intro hn
      have hx := List.getElem?_eq_getElem (l := xs) (i := n) (by omega)
      have e : xs.take (n + 1) = xs.take n ++ [xs[n]] := by rw [List.take_add_one, hx]; rfl
      rw [e, add_app, List.range_succ, List.filter_append, List.length_append, ← ih (by omega)]
      show (ad (add [] (xs.take n)) xs[n]).length = _
      unfold ad
      by_cases c : xs[n] ∈ add [] (xs.take n)
      · rw [if_pos c]
        have : ¬ ∀ j, j < n → xs[j]? ≠ xs[n]? := fun h => by
          have hm : xs[n] ∈ xs.take n := (mem_add.mp c).elim (fun z => by cases z) id
          obtain ⟨j, hj⟩ := List.mem_iff_getElem?.mp hm
          have hjn : j < n := by
            have := (List.getElem?_eq_some_iff.mp hj).1
            rw [List.length_take] at this
            omega
          rw [List.getElem?_take_of_lt hjn] at hj
          exact h j hjn (hj.trans hx.symm)
        rw [List.filter_cons_of_neg (by rw [decide_eq_false this]; decide)]
        rfl
      · rw [if_neg c]
        have : ∀ j, j < n → xs[j]? ≠ xs[n]? := fun j hj h => by
          refine c (mem_add.mpr (.inr (List.mem_iff_getElem?.mpr ⟨j, ?_⟩)))
          rw [List.getElem?_take_of_lt hj, h, hx]
        rw [List.filter_cons_of_pos (by rw [decide_eq_true this]), List.length_append]
        rfl
  have := gen xs.length (Nat.le_refl _)
  rwa [List.take_length] at this
end
section
variable {κ : Type} [DecidableEq κ] (lab : Nat → κ) (mv : Nat → Nat → Nat) (l n : Nat)
/-- the classes' numbers after k rounds -/
def cl : Nat → List Nat
  | 0 => num ((List.range n).map lab)
  | k + 1 => num ((List.range n).map fun i => ((cl k).getD i 0, (List.range l).map fun a => (cl k).getD (mv i a) 0))
theorem cl_len : ∀ k, (cl lab mv l n k).length = n
  | 0 => by unfold cl; rw [num_len, List.length_map, List.length_range]
  | k + 1 => by unfold cl; rw [num_len, List.length_map, List.length_range]
theorem rng_get {β : Type} (g : Nat → β) {i : Nat} (h : i < n) : ((List.range n).map g)[i]? = some (g i) := by
  rw [List.getElem?_map, List.getElem?_range h]
  rfl
theorem num_get {β : Type} [DecidableEq β] (g : Nat → β) {i j : Nat} (hi : i < n) (hj : j < n) : (num ((List.range n).map g)).getD i 0 = (num ((List.range n).map g)).getD j 0 ↔ g i = g j := by
  have a := num_eq (rng_get n g hi) (rng_get n g hj)
  have li : i < (num ((List.range n).map g)).length := by rw [num_len, List.length_map, List.length_range]; exact hi
  have lj : j < (num ((List.range n).map g)).length := by rw [num_len, List.length_map, List.length_range]; exact hj
  rw [List.getD_eq_getElem?_getD, List.getD_eq_getElem?_getD, ← a, List.getElem?_eq_getElem li, List.getElem?_eq_getElem lj]
  exact ⟨fun h => congrArg some h, fun h => Option.some.inj h⟩
variable {lab mv l n}
/-- the numbers say who is alike for k rounds -/
theorem cl_ek (hc : ∀ i a, i < n → a < l → mv i a < n) : ∀ k i j, i < n → j < n → ((cl lab mv l n k).getD i 0 = (cl lab mv l n k).getD j 0 ↔ Ek lab mv l k i j)
  | 0, i, j, hi, hj => num_get n lab hi hj
  | k + 1, i, j, hi, hj => by
    have e := num_get n (fun i => ((cl lab mv l n k).getD i 0, (List.range l).map fun a => (cl lab mv l n k).getD (mv i a) 0)) hi hj
    refine e.trans ?_
    rw [Prod.mk.injEq]
    refine and_congr (cl_ek hc k i j hi hj) ?_
    constructor
    · intro h a ha
      have h1 := congrArg (·[a]?) h
      have h2 : ((List.range l).map fun a => (cl lab mv l n k).getD (mv i a) 0)[a]? = ((List.range l).map fun a => (cl lab mv l n k).getD (mv j a) 0)[a]? := h1
      rw [rng_get l _ ha, rng_get l _ ha] at h2
      exact (cl_ek hc k _ _ (hc i a hi ha) (hc j a hj ha)).mp (Option.some.inj h2)
    · intro h
      exact List.map_congr_left fun a ha => (cl_ek hc k _ _ (hc i a hi (List.mem_range.mp ha)) (hc j a hj (List.mem_range.mp ha))).mpr (h a (List.mem_range.mp ha))
/-- how many classes there are -/
theorem cl_count (hc : ∀ i a, i < n → a < l → mv i a < n) (k : Nat) {β : Type} [DecidableEq β] (g : Nat → β) (hg : cl lab mv l n k = num ((List.range n).map g)) : (add [] ((List.range n).map g)).length = (Ls lab mv l n k).length := by
  rw [add_count, List.length_map, List.length_range]
  unfold Ls
  congr 1
  refine List.filter_congr fun i hi => ?_
  have hi := List.mem_range.mp hi
  rw [decide_eq_decide]
  constructor
  · intro h
    refine ⟨hi, fun j hj e => h j hj ?_⟩
    have := (cl_ek hc k j i (by omega) hi).mpr e
    rw [hg] at this
    rw [rng_get n g (by omega), rng_get n g hi, (num_get n g (by omega) hi).mp this]
  · intro h j hj e
    refine h.2 j hj ((cl_ek hc k j i (by omega) hi).mp ?_)
    rw [rng_get n g (by omega), rng_get n g hi] at e
    rw [hg]
    exact (num_get n g (by omega) hi).mpr (Option.some.inj e)
end
end Bq
/-! The quotient of the reached part (own mathematics, for k24 and k41). -/
namespace Bq
open Mo
section
variable {α β : Type} [DecidableEq α] [DecidableEq β]
/-- a value's number: how many values stand before it first -/
theorem idx_take {xs : List α} {p : Nat} {x : α} (hp : xs[p]? = some x) (hn : ∀ j, j < p → xs[j]? ≠ some x) : (add [] xs).idxOf x = (add [] (xs.take p)).length := by
  have hnx : x ∉ add [] (xs.take p) := fun h => by
    have hm : x ∈ xs.take p := (mem_add.mp h).elim (fun z => by cases z) id
    obtain ⟨j, hj⟩ := List.mem_iff_getElem?.mp hm
    have hjp : j < p := by
      have := (List.getElem?_eq_some_iff.mp hj).1
      rw [List.length_take] at this
      omega
    rw [List.getElem?_take_of_lt hjp] at hj
    exact hn j hjp hj
  have e : xs.take (p + 1) = xs.take p ++ [x] := by rw [List.take_add_one, hp]; rfl
  have e2 : add [] (xs.take (p + 1)) = add [] (xs.take p) ++ [x] := by
    rw [e, add_app]
    exact if_neg hnx
  have e3 : add [] xs = add (add [] (xs.take (p + 1))) (xs.drop (p + 1)) := by rw [← add_app, List.take_append_drop]
  obtain ⟨t, ht⟩ := add_pre (xs.drop (p + 1)) (add [] (xs.take (p + 1)))
  rw [e3, ht, e2, idx_pre (by simp), idx_new hnx]
/-- the first place of a value -/
theorem first_place (xs : List α) : ∀ (i : Nat) (x : α), xs[i]? = some x → ∃ p : Nat, p ≤ i ∧ xs[p]? = some x ∧ ∀ j, j < p → xs[j]? ≠ some x := by
  intro i
  induction i using Nat.strongRecOn with
  | ind i ih =>
    intro x hi
    by_cases h : ∃ j, j < i ∧ xs[j]? = some x
    · obtain ⟨j, hj, e⟩ := h
      obtain ⟨p, a, b, c⟩ := ih j hj x e
      exact ⟨p, by omega, b, c⟩
    · exact ⟨i, Nat.le_refl _, hi, fun j hj e => h ⟨j, hj, e⟩⟩
/-- two lists whose values are equal at the same places have the same numbers -/
theorem num_congr {xs : List α} {ys : List β} (hl : xs.length = ys.length) (h : ∀ i j, i < xs.length → j < xs.length → (xs[i]? = xs[j]? ↔ ys[i]? = ys[j]?)) : num xs = num ys := by
  apply List.ext_getElem?
  intro i
  rcases Nat.lt_or_ge i xs.length with hi | hi
  · have hiy : i < ys.length := by omega
    unfold num
    rw [List.getElem?_map, List.getElem?_map, List.getElem?_eq_getElem hi, List.getElem?_eq_getElem hiy]
    show some _ = some _
    congr 1
    obtain ⟨p, p1, p2, p3⟩ := first_place xs i _ (List.getElem?_eq_getElem hi)
    have hp : p < xs.length := by omega
    have py : ys[p]? = some ys[i] := by
      rw [← List.getElem?_eq_getElem hiy]
      exact (h p i hp hi).mp (p2.trans (List.getElem?_eq_getElem hi).symm)
    have pn : ∀ j, j < p → ys[j]? ≠ some ys[i] := fun j hj e => by
      refine p3 j hj ?_
      rw [← List.getElem?_eq_getElem hiy] at e
      rw [← List.getElem?_eq_getElem hi]
      exact (h j i (by omega) hi).mpr e
    show (add [] xs).idxOf xs[i] = (add [] ys).idxOf ys[i]
    rw [idx_take p2 p3, idx_take py pn, add_count, add_count, List.length_take, List.length_take, Nat.min_eq_left (by omega), Nat.min_eq_left (by omega)]
    congr 1
    refine List.filter_congr fun k hk => ?_
    have hk := List.mem_range.mp hk
    rw [decide_eq_decide]
    refine forall_congr' fun j => forall_congr' fun hj => not_congr ?_
    rw [List.getElem?_take_of_lt (by omega), List.getElem?_take_of_lt hk, List.getElem?_take_of_lt (by omega), List.getElem?_take_of_lt hk]
    exact h j k (by omega) (by omega)
  · rw [List.getElem?_eq_none (by rw [num_len]; exact hi), List.getElem?_eq_none (by rw [num_len]; omega)]
end
section
variable {κ : Type} {lab : Nat → κ} {mv : Nat → Nat → Nat} {l : Nat} {N : List Nat}
/-- alike among the reached, by their places -/
theorem ek_place (hN : ∀ s a, s ∈ N → a < l → mv s a ∈ N) : ∀ k i j, i < N.length → j < N.length →
    (Ek (fun i => lab (N.getD i 0)) (fun i a => N.idxOf (mv (N.getD i 0) a)) l k i j ↔ Ek lab mv l k (N.getD i 0) (N.getD j 0))
  | 0, i, j, _, _ => Iff.rfl
  | k + 1, i, j, hi, hj => by
    have mem : ∀ {i}, i < N.length → N.getD i 0 ∈ N := fun {i} h => by
      rw [List.getD_eq_getElem?_getD, List.getElem?_eq_getElem h]
      exact List.getElem_mem h
    have back : ∀ {s}, s ∈ N → N.getD (N.idxOf s) 0 = s := fun {s} h => by
      rw [List.getD_eq_getElem?_getD, get_idx h]
      rfl
    refine and_congr (ek_place hN k i j hi hj) (forall_congr' fun a => forall_congr' fun ha => ?_)
    have m1 := hN _ a (mem hi) ha
    have m2 := hN _ a (mem hj) ha
    have e := ek_place hN k (N.idxOf (mv (N.getD i 0) a)) (N.idxOf (mv (N.getD j 0) a)) (List.idxOf_lt_length_iff.mpr m1) (List.idxOf_lt_length_iff.mpr m2)
    rw [back m1, back m2] at e
    exact e
/-- alike for good, among the n states -/
def Al (lab : Nat → κ) (mv : Nat → Nat → Nat) (l n i j : Nat) : Prop := Ek lab mv l n i j
theorem al_mv {n : Nat} (hc : ∀ i a, i < n → a < l → mv i a < n) {i j : Nat} (hi : i < n) (hj : j < n) (h : Al lab mv l n i j) {a : Nat} (ha : a < l) : Al lab mv l n (mv i a) (mv j a) :=
  (stb_n n hc i j hi hj h).2 a ha
/-- THE QUOTIENT: the classes in the order of the search are the least of the classes in the order of the quotient's search -/
theorem quot_order {n s : Nat} {f : Nat → Nat} {M : List Nat} (hc : ∀ i a, i < n → a < l → mv i a < n) (h : Ord s (fun x => (List.range l).map (mv x)) N) (hn : ∀ x ∈ N, x < n) (fp : ∀ i, i < n → f i < n ∧ Al lab mv l n (f i) i) (fe : ∀ i j, i < n → j < n → (f i = f j ↔ Al lab mv l n i j))
    (hM : Ord (f s) (fun b => ((List.range l).map (mv b)).map f) M) : M = add [] (N.map f) := by
  refine ord_uniq hM (ord_map h fun x hx => ?_)
  rw [List.map_map, List.map_map]
  refine List.map_congr_left fun a ha => ?_
  have ha := List.mem_range.mp ha
  have hxn := hn x hx
  obtain ⟨f1, f2⟩ := fp x hxn
  exact (fe _ _ (hc _ a f1 ha) (hc _ a hxn ha)).mpr (al_mv hc f1 hxn f2 ha)
/-- the numbers that the refinement ends with -/
theorem quot_num [DecidableEq κ] {n K : Nat} {f : Nat → Nat} (hc : ∀ i a, i < n → a < l → mv i a < n) (hN : ∀ s a, s ∈ N → a < l → mv s a ∈ N) (hn : ∀ x ∈ N, x < n) (fe : ∀ i j, i < n → j < n → (f i = f j ↔ Al lab mv l n i j))
    (hK : Stb (fun i => lab (N.getD i 0)) (fun i a => N.idxOf (mv (N.getD i 0) a)) l N.length K) {β : Type} [DecidableEq β] (g : Nat → β) (hg : cl (fun i => lab (N.getD i 0)) (fun i a => N.idxOf (mv (N.getD i 0) a)) l N.length K = num ((List.range N.length).map g)) :
    cl (fun i => lab (N.getD i 0)) (fun i a => N.idxOf (mv (N.getD i 0) a)) l N.length K = num (N.map f) := by
  have mem : ∀ {i}, i < N.length → N.getD i 0 ∈ N := fun {i} h => by
    rw [List.getD_eq_getElem?_getD, List.getElem?_eq_getElem h]
    exact List.getElem_mem h
  have hc' : ∀ i a, i < N.length → a < l → N.idxOf (mv (N.getD i 0) a) < N.length := fun i a hi ha => List.idxOf_lt_length_iff.mpr (hN _ a (mem hi) ha)
  rw [hg]
  refine num_congr (by rw [List.length_map, List.length_range, List.length_map]) fun i j hi hj => ?_
  rw [List.length_map, List.length_range] at hi hj
  rw [rng_get N.length g hi, rng_get N.length g hj, List.getElem?_map, List.getElem?_map, List.getElem?_eq_getElem hi, List.getElem?_eq_getElem hj]
  have e1 := cl_ek (lab := fun i => lab (N.getD i 0)) (mv := fun i a => N.idxOf (mv (N.getD i 0) a)) hc' K i j hi hj
  rw [hg] at e1
  have e0 : (num ((List.range N.length).map g)).getD i 0 = (num ((List.range N.length).map g)).getD j 0 ↔ g i = g j := num_get N.length g hi hj
  have e2 := e1.symm.trans e0
  have gi : ∀ {i} (h : i < N.length), N.getD i 0 = N[i] := fun {i} h => by rw [List.getD_eq_getElem?_getD, List.getElem?_eq_getElem h]; rfl
  have e3 : Ek (fun i => lab (N.getD i 0)) (fun i a => N.idxOf (mv (N.getD i 0) a)) l K i j ↔ Al lab mv l n (N.getD i 0) (N.getD j 0) := by
    constructor
    · intro h
      have := stb_all hc' hK (max K n) (Nat.le_max_left _ _) i j hi hj h
      exact ek_le lab mv l (Nat.le_max_right K n) ((ek_place hN (max K n) i j hi hj).mp this)
    · intro h
      have := stb_all hc (stb_n n hc) (max K n) (Nat.le_max_right _ _) _ _ (hn _ (mem hi)) (hn _ (mem hj)) h
      exact (ek_place hN K i j hi hj).mpr (ek_le lab mv l (Nat.le_max_left K n) this)
  have e4 := fe _ _ (hn _ (mem hi)) (hn _ (mem hj))
  rw [gi hi, gi hj] at e3 e4
  constructor
  · intro h
    show some (f N[i]) = some (f N[j])
    exact congrArg some (e4.mpr (e3.mp (e2.mpr (Option.some.inj h))))
  · intro h
    have h : f N[i] = f N[j] := Option.some.inj h
    exact congrArg some (e2.mp (e3.mpr (e4.mp h)))
end
end Bq

/-! The search by breadth as a function, and the quotient of the quotient (own mathematics, for k24 and k41). -/
namespace Bq
open Mo
section
variable {α : Type} [DecidableEq α]
/-- the nodes after k rows of a search by breadth -/
def GG (s : α) (r : α → List α) : Nat → List α
  | 0 => [s]
  | k + 1 => match (GG s r k)[k]? with
    | some x => add (GG s r k) (r x)
    | none => GG s r k
theorem gg_some {s : α} {r : α → List α} {k : Nat} {x : α} (h : (GG s r k)[k]? = some x) : GG s r (k + 1) = add (GG s r k) (r x) := by
  show (match (GG s r k)[k]? with | some x => add (GG s r k) (r x) | none => GG s r k) = _
  rw [h]
theorem gg_none {s : α} {r : α → List α} {k : Nat} (h : (GG s r k)[k]? = none) : GG s r (k + 1) = GG s r k := by
  show (match (GG s r k)[k]? with | some x => add (GG s r k) (r x) | none => GG s r k) = _
  rw [h]
theorem gg_pre (s : α) (r : α → List α) (k : Nat) : ∃ t, GG s r (k + 1) = GG s r k ++ t := by
  cases h : (GG s r k)[k]? with
  | none => exact ⟨[], by rw [gg_none h, List.append_nil]⟩
  | some x => rw [gg_some h]; exact add_pre _ _
theorem gg_pre_le (s : α) (r : α → List α) {k m : Nat} (h : k ≤ m) : ∃ t, GG s r m = GG s r k ++ t := by
  induction h with
  | refl => exact ⟨[], by rw [List.append_nil]⟩
  | step _ ih =>
    obtain ⟨t, ht⟩ := ih
    obtain ⟨u, hu⟩ := gg_pre s r _
    exact ⟨t ++ u, by rw [hu, ht, List.append_assoc]⟩
theorem gg_stop {s : α} {r : α → List α} {k : Nat} (h : (GG s r k).length ≤ k) {m : Nat} (hm : k ≤ m) : GG s r m = GG s r k := by
  induction hm with
  | refl => rfl
  | step hm ih =>
    rename_i m
    rw [gg_none (by rw [ih]; exact List.getElem?_eq_none (by have := hm; simp at this; omega)), ih]
theorem gg_nd (s : α) (r : α → List α) : ∀ k, (GG s r k).Nodup
  | 0 => by show [s].Nodup; simp
  | k + 1 => by
    cases h : (GG s r k)[k]? with
    | none => rw [gg_none h]; exact gg_nd s r k
    | some x => rw [gg_some h]; exact nodup_add (gg_nd s r k)
theorem gg_in {s : α} {r : α → List α} {U : α → Prop} (hs : U s) (hc : ∀ x, U x → ∀ t ∈ r x, U t) : ∀ k, ∀ x ∈ GG s r k, U x
  | 0, x, hx => by rw [List.mem_singleton.mp hx]; exact hs
  | k + 1, x, hx => by
    cases h : (GG s r k)[k]? with
    | none => rw [gg_none h] at hx; exact gg_in hs hc k x hx
    | some y =>
      rw [gg_some h] at hx
      rcases mem_add.mp hx with z | z
      · exact gg_in hs hc k x z
      · exact hc y (gg_in hs hc k y (List.mem_of_getElem? h)) x z
theorem gg_ord {s : α} {r : α → List α} {n : Nat} (h : (GG s r n).length ≤ n) : Ord s r (GG s r n) := by
  have ear : ∀ k, k < (GG s r n).length → k < (GG s r k).length := fun k hk => by
    rcases Nat.lt_or_ge k (GG s r k).length with z | z
    · exact z
    · have := gg_stop z (show k ≤ n by omega)
      rw [this] at hk
      omega
  have key : ∀ k, k ≤ (GG s r n).length → Ak s r (GG s r n) k = GG s r k := by
    intro k
    induction k with
    | zero => intro _; rfl
    | succ k ih =>
      intro hk
      have e := ih (by omega)
      have hl := ear k (by omega)
      have hx := List.getElem?_eq_getElem hl
      obtain ⟨t, ht⟩ := gg_pre_le s r (show k ≤ n by omega)
      have hx2 : (GG s r n)[k]? = some (GG s r k)[k] := by rw [ht, List.getElem?_append_left hl, hx]
      rw [ak_succ hx2, gg_some hx, e]
  refine ⟨?_, fun k hk => by rw [key k (Nat.le_of_lt hk)]; exact ear k hk⟩
  rw [key _ (Nat.le_refl _)]
  obtain ⟨t, ht⟩ := gg_pre_le s r h
  have hl : (GG s r (GG s r n).length).length ≤ (GG s r n).length := by
    have := congrArg List.length ht
    rw [List.length_append] at this
    omega
  exact (gg_stop hl h).symm
theorem ord_start {s : α} {r : α → List α} {N : List α} (h : Ord s r N) : N[0]? = some s := by
  obtain ⟨t, ht⟩ := ak_pre h 0
  rw [ht]
  rfl
theorem ord_mem {s : α} {r : α → List α} {N : List α} (h : Ord s r N) {x t : α} (hx : x ∈ N) (ht : t ∈ r x) : t ∈ N := by
  rw [← h.all]
  unfold Ak
  rw [List.take_length]
  exact mem_add.mpr (.inr (List.mem_flatten.mpr ⟨_, List.mem_map.mpr ⟨x, hx, rfl⟩, ht⟩))
theorem ord_nd {s : α} {r : α → List α} {N : List α} (h : Ord s r N) : N.Nodup := by
  rw [← h.all]
  exact nodup_add (by simp)
theorem ord_in {s : α} {r : α → List α} {N : List α} {U : α → Prop} (h : Ord s r N) (hs : U s) (hc : ∀ x, U x → ∀ t ∈ r x, U t) : ∀ x ∈ N, U x := by
  have gen : ∀ k, k ≤ N.length → ∀ x ∈ Ak s r N k, U x := by
    intro k
    induction k with
    | zero => intro _ x hx; rw [List.mem_singleton.mp hx]; exact hs
    | succ k ih =>
      intro hk x hx
      have e := List.getElem?_eq_getElem (l := N) (i := k) (by omega)
      rw [ak_succ e] at hx
      rcases mem_add.mp hx with z | z
      · exact ih (by omega) x z
      · refine hc N[k] (ih (by omega) _ ?_) x z
        have := ak_get h (k := k) (by omega)
        rw [e] at this
        exact List.mem_of_getElem? this.symm
  intro x hx
  rw [← h.all] at hx
  exact gen _ (Nat.le_refl _) x hx
/-- the dict of first places: how its keys and values go on -/
theorem take_add1 {xs : List α} {i : Nat} {x : α} (h : xs[i]? = some x) : add [] (xs.take (i + 1)) = ad (add [] (xs.take i)) x := by
  rw [List.take_add_one, h]
  show add [] (xs.take i ++ [x]) = _
  rw [add_app]
  rfl
theorem idx_first {xs : List α} {i : Nat} {x : α} (h : xs[i]? = some x) (hn : x ∉ add [] (xs.take i)) : xs.idxOf x = i := by
  have hn : x ∉ xs.take i := fun z => hn (mem_add.mpr (.inr z))
  have hl := (List.getElem?_eq_some_iff.mp h).1
  have e : xs = xs.take i ++ xs.drop i := (List.take_append_drop i xs).symm
  have h2 : (xs.drop i)[0]? = some x := by rw [List.getElem?_drop]; exact h
  have h3 : ∃ t, xs.drop i = x :: t := by
    cases hd : xs.drop i with
    | nil => rw [hd] at h2; cases h2
    | cons y t => rw [hd] at h2; cases h2; exact ⟨t, rfl⟩
  obtain ⟨t, ht⟩ := h3
  rw [e, List.idxOf_append, if_neg hn, ht]
  simp
  omega
theorem add_pre_take (xs : List α) (i : Nat) : ∃ t, add [] xs = add [] (xs.take i) ++ t := by
  obtain ⟨t, ht⟩ := add_pre (xs.drop i) (add [] (xs.take i))
  exact ⟨t, by rw [← ht, ← add_app, List.take_append_drop]⟩
theorem add_nodup_self : ∀ {l acc : List α}, (acc ++ l).Nodup → add acc l = acc ++ l
  | [], acc, _ => by rw [add_nil, List.append_nil]
  | x :: l, acc, h => by
    have hx : x ∉ acc := fun z => by
      rw [List.nodup_append] at h
      exact h.2.2 x z x List.mem_cons_self rfl
    rw [add_cons, show ad acc x = acc ++ [x] from if_neg hx, add_nodup_self (by rw [List.append_assoc]; exact h), List.append_assoc]
    rfl
end
section
variable {κ : Type} [DecidableEq κ] {lab : Nat → κ} {mv : Nat → Nat → Nat} {l n s : Nat} {f : Nat → Nat}
/-- f picks one of each class -/
structure Pick (lab : Nat → κ) (mv : Nat → Nat → Nat) (l n : Nat) (f : Nat → Nat) : Prop where
  cl : ∀ i a, i < n → a < l → mv i a < n
  fp : ∀ i, i < n → f i < n ∧ Al lab mv l n (f i) i
  fe : ∀ i j, i < n → j < n → (f i = f j ↔ Al lab mv l n i j)
theorem Pick.idem (p : Pick lab mv l n f) {i : Nat} (h : i < n) : f (f i) = f i := (p.fe _ _ (p.fp i h).1 h).mpr (p.fp i h).2
theorem Pick.step (p : Pick lab mv l n f) {i a : Nat} (h : i < n) (ha : a < l) : f (mv (f i) a) = f (mv i a) :=
  (p.fe _ _ (p.cl _ _ (p.fp i h).1 ha) (p.cl _ _ h ha)).mpr (al_mv p.cl (p.fp i h).1 h (p.fp i h).2 ha)
theorem Pick.same (p : Pick lab mv l n f) {i : Nat} (h : i < n) : lab (f i) = lab i := ek_le lab mv l (Nat.zero_le n) (p.fp i h).2
/-- the row of a node in the search -/
abbrev rowM (mv : Nat → Nat → Nat) (l x : Nat) : List Nat := (List.range l).map (mv x)
/-- the order of the classes -/
abbrev OrdQ (mv : Nat → Nat → Nat) (l s : Nat) (f : Nat → Nat) (M : List Nat) : Prop := Ord (f s) (fun b => (rowM mv l b).map f) M
theorem ordq_fix (p : Pick lab mv l n f) (hs : s < n) {M : List Nat} (h : OrdQ mv l s f M) : ∀ b ∈ M, b < n ∧ f b = b :=
  ord_in (U := fun b => b < n ∧ f b = b) h ⟨(p.fp s hs).1, p.idem hs⟩ fun x hx t ht => by
    obtain ⟨y, hy, rfl⟩ := List.mem_map.mp ht
    obtain ⟨a, ha, rfl⟩ := List.mem_map.mp hy
    have := p.cl x a hx.1 (List.mem_range.mp ha)
    exact ⟨(p.fp _ this).1, p.idem this⟩
/-- the quotient's moves -/
def qmv (mv : Nat → Nat → Nat) (f : Nat → Nat) (M : List Nat) (i a : Nat) : Nat := M.idxOf (f (mv (M.getD i 0) a))
def qlab (lab : Nat → κ) (M : List Nat) (i : Nat) : κ := lab (M.getD i 0)
theorem ordq_mem {M : List Nat} (h : OrdQ mv l s f M) {b a : Nat} (hb : b ∈ M) (ha : a < l) : f (mv b a) ∈ M :=
  ord_mem h hb (List.mem_map.mpr ⟨_, List.mem_map.mpr ⟨a, List.mem_range.mpr ha, rfl⟩, rfl⟩)
theorem getD_mem {M : List Nat} {i : Nat} (h : i < M.length) : M.getD i 0 ∈ M := by
  rw [List.getD_eq_getElem?_getD, List.getElem?_eq_getElem h]
  exact List.getElem_mem h
theorem getD_idx {M : List Nat} {x : Nat} (h : x ∈ M) : M.getD (M.idxOf x) 0 = x := by
  rw [List.getD_eq_getElem?_getD, get_idx h]
  rfl
theorem idx_getD {M : List Nat} (nd : M.Nodup) {i : Nat} (h : i < M.length) : M.idxOf (M.getD i 0) = i := by
  have hm := getD_mem h
  have e := get_idx hm
  have lt := List.idxOf_lt_length_iff.mpr hm
  have e2 : M[i]? = some (M.getD i 0) := by
    rw [List.getD_eq_getElem?_getD, List.getElem?_eq_getElem h]
    rfl
  exact (List.getElem?_inj lt nd).mp (e.trans e2.symm)
/-- alike in the quotient: alike there -/
theorem qek (p : Pick lab mv l n f) (hs : s < n) {M : List Nat} (h : OrdQ mv l s f M) : ∀ k i j, i < M.length → j < M.length → Ek (qlab lab M) (qmv mv f M) l k i j → Ek lab mv l k (M.getD i 0) (M.getD j 0)
  | 0, _, _, _, _, e => e
  | k + 1, i, j, hi, hj, e => by
    refine ⟨qek p hs h k i j hi hj e.1, fun a ha => ?_⟩
    have bi := ordq_fix p hs h _ (getD_mem hi)
    have bj := ordq_fix p hs h _ (getD_mem hj)
    have mi := ordq_mem h (getD_mem hi) ha
    have mj := ordq_mem h (getD_mem hj) ha
    have e2 := qek p hs h k _ _ (List.idxOf_lt_length_iff.mpr mi) (List.idxOf_lt_length_iff.mpr mj) (e.2 a ha)
    rw [getD_idx mi, getD_idx mj] at e2
    have c1 := p.cl _ a bi.1 ha
    have c2 := p.cl _ a bj.1 ha
    have w : ∀ {x}, x < n → Ek lab mv l k (f x) x := fun {x} hx => by
      have := stb_all p.cl (stb_n n p.cl) (max k n) (Nat.le_max_right _ _) _ _ (p.fp x hx).1 hx (p.fp x hx).2
      exact ek_le lab mv l (Nat.le_max_left _ _) this
    exact ek_trans lab mv l k (ek_symm lab mv l k (w c1)) (ek_trans lab mv l k e2 (w c2))
/-- the quotient is its own quotient -/
theorem quot_pick (p : Pick lab mv l n f) (hs : s < n) {M : List Nat} (h : OrdQ mv l s f M) : Pick (qlab lab M) (qmv mv f M) l M.length id := by
  have cl : ∀ i a, i < M.length → a < l → qmv mv f M i a < M.length := fun i a hi ha => List.idxOf_lt_length_iff.mpr (ordq_mem h (getD_mem hi) ha)
  refine ⟨cl, fun i hi => ⟨hi, ek_refl _ _ _ _ _⟩, fun i j hi hj => ⟨fun e => by cases (show i = j from e); exact ek_refl _ _ _ _ _, fun e => ?_⟩⟩
  have e1 := stb_all cl (stb_n M.length cl) (max n M.length) (Nat.le_max_right _ _) i j hi hj e
  have e2 := qek p hs h _ i j hi hj e1
  have e3 := ek_le lab mv l (Nat.le_max_left _ _) e2
  have bi := ordq_fix p hs h _ (getD_mem hi)
  have bj := ordq_fix p hs h _ (getD_mem hj)
  have e4 := (p.fe _ _ bi.1 bj.1).mpr e3
  rw [bi.2, bj.2] at e4
  have := congrArg M.idxOf e4
  rw [idx_getD (ord_nd h) hi, idx_getD (ord_nd h) hj] at this
  exact this
theorem map_idx_range {M : List Nat} (nd : M.Nodup) : M.map M.idxOf = List.range M.length := by
  apply List.ext_getElem?
  intro i
  rw [List.getElem?_map]
  rcases Nat.lt_or_ge i M.length with hi | hi
  · rw [List.getElem?_range hi, List.getElem?_eq_getElem hi]
    have := idx_getD nd hi
    rw [List.getD_eq_getElem?_getD, List.getElem?_eq_getElem hi] at this
    show some (M.idxOf M[i]) = some i
    exact congrArg some this
  · rw [List.getElem?_eq_none hi, List.getElem?_eq_none (by rw [List.length_range]; exact hi)]
    rfl
theorem quot_ord (p : Pick lab mv l n f) (hs : s < n) {M : List Nat} (h : OrdQ mv l s f M) : OrdQ (qmv mv f M) l 0 id (List.range M.length) := by
  have nd := ord_nd h
  have h0 := ord_start h
  have e0 : M.idxOf (f s) = 0 := by
    have hl : 0 < M.length := (List.getElem?_eq_some_iff.mp h0).1
    have := idx_getD nd hl
    rw [List.getD_eq_getElem?_getD, h0] at this
    exact this
  have := ord_map (c := M.idxOf) (q := fun i => (rowM (qmv mv f M) l i).map id) h fun x hx => by
    rw [List.map_id, List.map_map, List.map_map]
    refine List.map_congr_left fun a ha => ?_
    show M.idxOf (f (mv (M.getD (M.idxOf x) 0) a)) = M.idxOf (f (mv x a))
    rw [getD_idx hx]
  rw [e0, map_idx_range nd, add_nodup_self (by rw [List.nil_append]; exact List.nodup_range), List.nil_append] at this
  exact this
/-- the rows of the quotient -/
def qrows (mv : Nat → Nat → Nat) (l : Nat) (f : Nat → Nat) (M : List Nat) : List (List Nat) := M.map fun b => (List.range l).map fun a => M.idxOf (f (mv b a))
theorem qrows_q {M : List Nat} (nd : M.Nodup) : qrows (qmv mv f M) l id (List.range M.length) = qrows mv l f M := by
  unfold qrows
  apply List.ext_getElem?
  intro i
  rw [List.getElem?_map, List.getElem?_map]
  rcases Nat.lt_or_ge i M.length with hi | hi
  · rw [List.getElem?_range hi, List.getElem?_eq_getElem hi]
    show some _ = some _
    congr 1
    refine List.map_congr_left fun a ha => ?_
    show (List.range M.length).idxOf (M.idxOf (f (mv (M.getD i 0) a))) = _
    rw [List.getD_eq_getElem?_getD, List.getElem?_eq_getElem hi]
    show (List.range M.length).idxOf (M.idxOf (f (mv M[i] a))) = _
    rcases Nat.lt_or_ge (M.idxOf (f (mv M[i] a))) M.length with z | z
    · have e := idx_getD (M := List.range M.length) List.nodup_range (i := M.idxOf (f (mv M[i] a))) (by rw [List.length_range]; exact z)
      rw [List.getD_eq_getElem?_getD, List.getElem?_range z] at e
      exact e
    · have h1 : f (mv M[i] a) ∉ M := fun h => Nat.not_lt_of_le z (List.idxOf_lt_length_iff.mpr h)
      have e : M.idxOf (f (mv M[i] a)) = M.length := by
        have := List.idxOf_le_length (a := f (mv M[i] a)) (l := M)
        omega
      rw [e, List.idxOf_eq_length (by simp), List.length_range]
  · rw [List.getElem?_eq_none hi, List.getElem?_eq_none (by rw [List.length_range]; exact hi)]
    rfl
end
end Bq
/-! ### own rules: list(d.values()), len of a dict with nested keys, the parts of a lambda -/
namespace Lvx
open PySem PySem.Spec PyProof.Rows L2
theorem vals_kv {κ : Type} {kvs : List (κ × V)} {vs : List (κ × Value)} (r : KV kvs vs) : ∀ {us : List Value}, us.length = vs.length → (∀ (j : Nat) (u : Value), us[j]? = some u → ∃ k, vs[j]? = some (k, u)) → Vals (kvs.map (·.2)) us := by
  unfold KV at r
  induction r with
  | nil =>
    intro us hl _
    have : us = [] := List.length_eq_zero_iff.mp hl
    subst this
    exact .nil
  | @cons p q ps qs e t ih =>
    intro us hl h
    match us, hl with
    | u :: us, hl =>
      obtain ⟨k, hk⟩ := h 0 u rfl
      have hk : some q = some (k, u) := hk
      cases hk
      exact .cons e.2 (ih (Nat.succ.inj hl) fun j u hj => h (j + 1) u hj)
def tListVals (te : TE) : TE := fun σ H Q => te σ H fun x H1 => ∃ (d : Addr) (kvs : List (Key × V)), x = .ref d ∧ H1 d = some (.dK kvs) ∧ ∀ p, H1 p = none → Q (.ref p) (upd H1 p (.lst (kvs.map (·.2))))
section
variable {X : Cx} {e : Expr} {te : TE} {p apos cpos pos : Pos}
theorem pe_listVals (hc : X.calm = true) (he : PE X e te) (hg : Gl X "list") (hm : X.mg "list" = none) (hv : bootBuiltins "list" = some (.type "list")) (hbase : attributeBase e "values" X.env (eval e X.env) = eval e X.env := by rfl) (hline : (apos.endLine == cpos.line) = true := by rfl)
    (hs : starEach [.Call (.Attribute e "values" apos) [] [] cpos] X.env = (false, eval (.Call (.Attribute e "values" apos) [] [] cpos) X.env) :: starEach [] X.env := by rfl) :
    PE X (.Call (.Name "list" p) [.Call (.Attribute e "values" apos) [] [] cpos] [] pos) (tListVals te) := by
  refine ⟨fun pins s σ H Q I hq => ?_⟩
  refine wpAny_Call_Name_kw (ld_blt I hg hm hv ?_)
  refine PyProof.Rows.callWith_type1 ?_ hs rfl
  rw [hs]
  show wpAny _ _ (spliced ((false, eval (.Call (.Attribute e "values" apos) [] [] cpos) X.env) :: backTo pos (starEach [] X.env))) _ _ s
  refine Calls.spliced_cons ?_
  refine wpAny_Call_method (T := "dict") (id := "dict.values") hbase rfl hline F.plainAttrs_dict F.slot_dict_values F.type_dict_values (thn (he.run pins s σ H _ I hq) fun u s1 ⟨x, H1, I1, rx, d, kvs, ex, hd, q⟩ => ?_)
  subst ex
  obtain rfl : u = Value.ref d := rx
  obtain ⟨hz, hs0, vs, kv, hdo⟩ := I1.hok d _ hd
  obtain ⟨ep, hat⟩ := hdo.dictAt
  have lk : kvs.length = vs.length := Paired.length kv
  have I2 : Inv X pins σ H1 { s1 with heap := s1.heap.push { cls := .type "dict_values", data := .fields #[.ref d] } } := I1.kept (t' := s1.toks) fun b ob q => Heap.get?_push_of_some _ q
  refine ⟨hdo.typeIs, hdo.mapOf.noDict, ?_⟩
  show wpAny _ _ (callWith cpos (.builtin "dict.values") [.ref d] [] []) _ X.xe s1
  refine method_meetsIn F.slot_dict_values F.entry_dict_values rfl (PySem.evalArgs_none ⟨rfl, hdo.typeIs, F.args_dict_values_1 _, _, meets_dict_values (mixKind X.prog X.w) d hs0, ⟨vs, hdo⟩, ?_⟩)
  refine Calls.spliced_nil ?_
  refine PySem.W.kdl_call (PySem.W.kdl_values (knd := mixKind X.prog X.w) (r := s1.heap.objs.size) (d := d) (kvs := vs) (ep := ep)) (I1.ok.hd hc) ⟨⟨_, Heap.get?_push_size _ rfl, rfl, rfl⟩, hat.push _⟩ (by omega) fun h' tk acc c hk hS hacc => ?_
  have el : acc.toList.length = acc.size := by simp
  refine ⟨.ref _, upd H1 _ (.lst (kvs.map (·.2))), I2.laid (t' := tk) hk (Nat.le_refl _) (show ObjOk X.prog X.w _ _ _ (.lst (kvs.map (·.2))) from ⟨?_, acc.toList, c, vals_kv kv (by rw [el, hacc.1]) fun j u hj => hacc.2 j u (by rw [← Array.getElem?_toList]; exact hj), ?_⟩), rfl, q _ (I2.hok.fresh (Nat.le_refl _))⟩
  · rw [List.length_map]; exact hz
  · rw [Array.toArray_toList]; exact hS
end
end Lvx
namespace Dn2
open PySem PySem.Spec PyProof.Rows L2
theorem cr_lenN {X : Cx} {P : Program} {w : World} {K : PySem.W.Frag} (hp : X.prog = P) (hw : X.w = w) (hK : X.K = K) : CallR X (.builtin "len") (fun xs H Q => ∃ a kvs, xs = [V.ref a] ∧ DN P w K H a kvs ∧ Q (.int kvs.length) H) := by
  subst hp hw hK
  intro pins s σ H xs us Q I r h
  obtain ⟨a, kvs, rfl, ⟨⟨ys, e, rp⟩, hk⟩, q⟩ := h
  obtain ⟨u, rfl, ru⟩ := vals1 r
  cases ru
  obtain ⟨z, y, D⟩ := dn_heap I.kIn I.hok e rp hk
  refine call_len_dictH y D (by rw [sizeLine_eq] at z; omega) ?_
  exact ⟨.int kvs.length, H, I.tok _, ⟨_, by rw [rel_len rp]⟩, q⟩
end Dn2
namespace Lm
open PySem PySem.Spec PyProof.Rows L2 LamX NdefX Clo
def lamIn (st : Stmt) (k : Nat) : Expr := match st with
  | .Assign _ (.Call _ es _ _) _ => es.getD k (.Name "" ⟨0, 0, 0, 0⟩)
  | _ => .Name "" ⟨0, 0, 0, 0⟩
def lamS : Expr → Scope
  | .Lambda _ _ sc _ => sc
  | _ => defScope (.Pass ⟨0, 0, 0, 0⟩)
def lamB : Expr → Expr
  | .Lambda _ b _ _ => b
  | e => e
def lamA : Expr → Arguments
  | .Lambda a _ _ _ => a
  | _ => defArgs (.Pass ⟨0, 0, 0, 0⟩)
theorem pe_lamB {X : Cx} {T : List NTab} {nm : Nat → Nat → Str} {c P : Addr} {params : Arguments} {body : Expr} {scope sc : Scope} {pos : Pos} (TB : TabB X.base X.mg c P) (hcode : X.env.code = .ref c) (hm : (P, nm) ∈ T) (hn : nm pos.line pos.col = X.env.qual ++ "<lambda>") (hu : ∀ p ∈ T, p.1 = P → p.2 = nm)
    (hdef : defaultsOf params X.env = ([], [])) (hs : X.env.scope = sc) (hfree : (scope.names.all fun y => !decide (y.2 = .free) || decide (sc.names.lookup y.1 = some .cell)) = true) :
    PE X (.Lambda params body scope pos) (tLamM X T params body scope) := pe_lamM TB hcode hm hn hu hdef fun y hy e => by
  have := List.all_eq_true.mp hfree y hy
  rw [hs]
  rw [e] at this
  exact .inl (by simpa using this)
end Lm
/-! ### own rule: list(zip(a, b)), a a list, b a tuple -/
namespace Lzp
open PySem PySem.Spec PyProof.Rows
section
variable {prog : Program} {w : World} {A : Around} {E : Value → Shared → Prop} {s : Shared} {z TI TO i1 i2 : Addr} {fp1 fp2 : List Addr} {n1 n2 i : Nat} {P1 P2 : Nat → Value → Prop} {St1 St2 : Nat → Heap → Prop}
theorem heldD_item {T : Addr} {f : Bool} {oT : Obj} {Q : Value → Shared → Prop} (S : ZipSep2 z TI TO i1 i2 fp1 fp2) (D1 : Draws prog w A i1 fp1 n1 P1 St1) (D2 : Draws prog w A i2 fp2 n2 P2 St2)
    (hz : IsZipHeld s.heap z TI TO T f) (hT : s.heap.get? T = some oT) (hTI : IsTupOf2 s.heap TI (.ref i1) (.ref i2)) (st1 : St1 i s.heap) (st2 : St2 i s.heap) (hlt1 : i < n1) (hlt2 : i < n2)
    (hQ : ∀ x1 x2 h' tk, P1 i x1 → P2 i x2 → IsZipHeld h' z TI TO T true → St1 (i + 1) h' → St2 (i + 1) h' → IsTupOf2 h' s.heap.objs.size x1 x2 → h'.objs.size = s.heap.objs.size + 1 →
      (∀ c o, c ≠ z → c ≠ i1 → c ≠ i2 → s.heap.get? c = some o → h'.get? c = some o) → Q (.ref s.heap.objs.size) { s with heap := h', toks := tk }) :
    wpAny (model prog w) A (Builtin.«zip.__next__» ⟨[.ref z], []⟩) (fun fin s' => ∃ v, fin = .done (.ret v) ∧ Q v s') E s := by
  obtain ⟨hp, g, d, tk0, os⟩ := s
  show wpAny _ _ (field (.ref z) 2 >>= _) _ _ _
  refine wpAny_bind (wpAny_field hz rfl (x := .bool false) rfl ?_)
  show wpAny _ _ (field (.ref z) 3 >>= _) _ _ _
  refine wpAny_bind (wpAny_field hz rfl (x := .ref TI) rfl ?_)
  refine wpAny_bind (wpAny_seqItems hTI rfl ?_)
  show wpAny _ _ (Builtin.SmallTypes.ownedTupleIsFree (.ref z) >>= _) _ _ _
  refine wpAny_bind (wpAny_tupleHeld_zip hz hT fun h₁ hz₁ hs₁ => ?_)
  simp only [Bool.false_eq_true, if_false]
  refine wpAny_bind ?_
  rw [← Array.forIn_toList]
  simp only [List.forIn_cons, List.forIn_nil]
  refine wpAny_bind (wpAny_bind (wpAny_holding ?_))
  show wpAny _ _ (Builtin.SmallTypes.nextOf (.ref i1) >>= _) _ _ ⟨h₁, g, d, tk0, os⟩
  replace hs₁ : Heap.SameBut z hp h₁ := hs₁
  refine wpAny_bind (D1.item i _ _ _ hlt1 (D1.over st1 hs₁ S.zf1) fun x1 p1 tk1 hx1 sn1 hp1 => wpAny_pure ?_)
  replace hp1 : Heap.SameBut i1 h₁ p1 := hp1
  refine wpAny_pure ?_
  refine wpAny_bind (wpAny_bind (wpAny_holding ?_))
  show wpAny _ _ (Builtin.SmallTypes.nextOf (.ref i2) >>= _) _ _ ⟨p1, g, d, tk1, os⟩
  refine wpAny_bind (D2.item i _ _ _ hlt2 (D2.over (D2.over st2 hs₁ S.zf2) hp1 S.sep1_2) fun x2 p2 tk2 hx2 sn2 hp2 => wpAny_pure ?_)
  replace hp2 : Heap.SameBut i2 p1 p2 := hp2
  refine wpAny_pure (wpAny_pure ?_)
  show wpAny _ _ (newTuple [x1, x2] >>= _) _ _ _
  refine wpAny_bind (wpAny_newTuple ?_)
  have hsz : p2.objs.size = hp.objs.size := by rw [hp2.1, hp1.1, hs₁.1]
  have hzz : IsZipHeld p2 z TI TO T true := hp2.extBut _ _ S.zi2 (hp1.extBut _ _ S.zi1 hz₁)
  have hk : ∀ c o, c ≠ z → c ≠ i1 → c ≠ i2 → hp.get? c = some o → p2.get? c = some o := fun c o c1 c2 c3 e => hp2.extBut _ _ c3 (hp1.extBut _ _ c2 (hs₁.extBut _ _ c1 e))
  have hj1 : St1 (i + 1) p2 := D1.over sn1 hp2 S.sep2_1
  refine wpAny_pure ⟨_, rfl, ?_⟩
  show Q (.ref p2.objs.size) _
  have hpp : IsTupOf2 (p2.push { cls := .type "tuple", data := .seq #[x1, x2] }) p2.objs.size x1 x2 := Heap.get?_push_size _ rfl
  have hz4 : (p2.push { cls := .type "tuple", data := .seq #[x1, x2] }).objs.size = p2.objs.size + 1 := Heap.size_push ..
  rw [hsz] at hpp hz4 ⊢
  exact hQ x1 x2 _ tk2 hx1 hx2 (Heap.get?_push_of_some _ hzz) (D1.frame _ _ _ hj1 fun b hb o e => Heap.get?_push_of_some _ e) (D2.frame _ _ _ sn2 fun b hb o e => Heap.get?_push_of_some _ e) hpp hz4 fun c o c1 c2 c3 e => Heap.get?_push_of_some _ (hk c o c1 c2 c3 e)
theorem heldD_end {T : Addr} {f : Bool} {oT : Obj} {Q : Fin → Shared → Prop} (S : ZipSep2 z TI TO i1 i2 fp1 fp2) (D1 : Draws prog w A i1 fp1 n1 P1 St1)
    (hz : IsZipHeld s.heap z TI TO T f) (hT : s.heap.get? T = some oT) (hTI : IsTupOf2 s.heap TI (.ref i1) (.ref i2)) (st1 : St1 n1 s.heap)
    (hE : ∀ h' e, (∀ c o, c ≠ z → c ≠ i1 → c ≠ i2 → s.heap.get? c = some o → h'.get? c = some o) → (∃ o, h'.get? e = some o ∧ o.cls = .type "StopIteration") → E (.ref e) { s with heap := h' }) :
    wpAny (model prog w) A (Builtin.«zip.__next__» ⟨[.ref z], []⟩) Q E s := by
  show wpAny _ _ (field (.ref z) 2 >>= _) _ _ _
  refine wpAny_bind (wpAny_field hz rfl (x := .bool false) rfl ?_)
  show wpAny _ _ (field (.ref z) 3 >>= _) _ _ _
  refine wpAny_bind (wpAny_field hz rfl (x := .ref TI) rfl ?_)
  refine wpAny_bind (wpAny_seqItems hTI rfl ?_)
  show wpAny _ _ (Builtin.SmallTypes.ownedTupleIsFree (.ref z) >>= _) _ _ _
  refine wpAny_bind (wpAny_tupleHeld_zip hz hT fun h₁ hz₁ hs₁ => ?_)
  simp only [Bool.false_eq_true, if_false]
  refine wpAny_bind ?_
  rw [← Array.forIn_toList]
  simp only [List.forIn_cons, List.forIn_nil]
  refine wpAny_bind (wpAny_bind (wpAny_holding ?_))
  show wpAny _ _ (Builtin.SmallTypes.nextOf (.ref i1) >>= _) _ _ _
  refine wpAny_bind (D1.done _ _ _ (D1.over st1 hs₁ S.zf1) fun h₂ e hs₂ he => ?_)
  exact hE h₂ e (fun c o c1 c2 _ x => hs₂ _ _ c2 (hs₁.extBut _ _ c1 x)) he

theorem next_held {T : Addr} {f : Bool} {oT : Obj} {Q : Option Value → Shared → Prop} (S : ZipSep2 z TI TO i1 i2 fp1 fp2) (D1 : Draws prog w A.in1 i1 fp1 n1 P1 St1) (D2 : Draws prog w A.in1 i2 fp2 n2 P2 St2)
    (hz : IsZipHeld s.heap z TI TO T f) (hT : s.heap.get? T = some oT) (hTI : IsTupOf2 s.heap TI (.ref i1) (.ref i2)) (st1 : St1 i s.heap) (st2 : St2 i s.heap) (hlt1 : i < n1) (hlt2 : i < n2)
    (hQ : ∀ x1 x2 h' tk, P1 i x1 → P2 i x2 → IsZipHeld h' z TI TO T true → St1 (i + 1) h' → St2 (i + 1) h' → IsTupOf2 h' s.heap.objs.size x1 x2 → h'.objs.size = s.heap.objs.size + 1 →
      (∀ c o, c ≠ z → c ≠ i1 → c ≠ i2 → s.heap.get? c = some o → h'.get? c = some o) → Q (some (.ref s.heap.objs.size)) { s with heap := h', toks := tk }) :
    wpAny (model prog w) A (pyNext (.ref z)) Q E s := by
  have hTy : s.TypeIs (.ref z) "zip" := ⟨_, hz, rfl⟩
  unfold pyNext
  exact wpAny_bind (wpAny_attempt (wpAny_callSpecial?_slot (name := Str.ofString "__next__") hTy F.slot_zip_next
    (wpAny_call_entry F.slot_zip_next hTy F.entry_zip_next
      (heldD_item S D1 D2 hz hT hTI st1 st2 hlt1 hlt2 fun x1 x2 h' tk y1 y2 b1 d1 d2 b5 b6 b7 => wpAny_pure (hQ x1 x2 h' tk y1 y2 b1 d1 d2 b5 b6 b7)) (F.args_zip_next_1 _))))
theorem end_held {T : Addr} {f : Bool} {oT : Obj} {Q : Option Value → Shared → Prop} (S : ZipSep2 z TI TO i1 i2 fp1 fp2) (D1 : Draws prog w A.in1 i1 fp1 n1 P1 St1)
    (hz : IsZipHeld s.heap z TI TO T f) (hT : s.heap.get? T = some oT) (hTI : IsTupOf2 s.heap TI (.ref i1) (.ref i2)) (st1 : St1 n1 s.heap)
    (hQ : ∀ h' tk, (∀ c o, c ≠ z → c ≠ i1 → c ≠ i2 → s.heap.get? c = some o → h'.get? c = some o) → Q none { s with heap := h', toks := tk }) : wpAny (model prog w) A (pyNext (.ref z)) Q E s := by
  have hTy : s.TypeIs (.ref z) "zip" := ⟨_, hz, rfl⟩
  unfold pyNext
  refine wpAny_bind (wpAny_attempt (wpAny_callSpecial?_slot (name := Str.ofString "__next__") hTy F.slot_zip_next
    (wpAny_call_entry F.slot_zip_next hTy F.entry_zip_next (heldD_end S D1 hz hT hTI st1 fun h' e hk he => ?_) (F.args_zip_next_1 _))))
  obtain ⟨o, ho, hc⟩ := he
  refine wpAny_bind (wpAny_isInstance (T := "StopIteration") (b := true) ⟨o, ho, hc⟩ isSubtype_stop ?_)
  exact wpAny_pure (hQ _ _ hk)
/-- how far the zip has come; S is the list that grows -/
def ZSt (h : Heap) (z TI TO i1 i2 S : Addr) (St1 St2 : Nat → Heap → Prop) (i : Nat) : Prop := IsTupOf2 h TI (.ref i1) (.ref i2) ∧ St1 i h ∧ St2 i h ∧ ((IsZip h z TI TO .none ∧ ∃ a1 a2, IsTupOf2 h TO a1 a2) ∨ ∃ T f oT, IsZipHeld h z TI TO T f ∧ h.get? T = some oT ∧ T ≠ z ∧ T ≠ i1 ∧ T ≠ i2 ∧ T ≠ S)
theorem zst_keep {h h' : Heap} {S : Addr} (Sp : ZipSep2 z TI TO i1 i2 fp1 fp2) (D1 : Draws prog w A i1 fp1 n1 P1 St1) (D2 : Draws prog w A i2 fp2 n2 P2 St2) (x : ZSt h z TI TO i1 i2 S St1 St2 i) (k : ∀ b o, b ≠ S → h.get? b = some o → h'.get? b = some o) (c1 : TI ≠ S) (c2 : z ≠ S) (c3 : TO ≠ S) (c4 : S ∉ fp1) (c5 : S ∉ fp2) : ZSt h' z TI TO i1 i2 S St1 St2 i := by
  obtain ⟨h1, h2, h3, h4⟩ := x
  refine ⟨k _ _ c1 h1, D1.frame _ _ _ h2 fun b hb o e => k b o (fun q => c4 (q ▸ hb)) e, D2.frame _ _ _ h3 fun b hb o e => k b o (fun q => c5 (q ▸ hb)) e, ?_⟩
  rcases h4 with ⟨h4, a1, a2, h5⟩ | ⟨T, f, oT, h4, h5, t1, t2, t3, t4⟩
  · exact .inl ⟨k _ _ c2 h4, a1, a2, k _ _ c3 h5⟩
  · exact .inr ⟨T, f, oT, k _ _ c2 h4, k _ _ t4 h5, t1, t2, t3, t4⟩
theorem zst_item {S : Addr} {Q : Option Value → Shared → Prop} (Sp : ZipSep2 z TI TO i1 i2 fp1 fp2) (D1 : Draws prog w A.in1 i1 fp1 n1 P1 St1) (D2 : Draws prog w A.in1 i2 fp2 n2 P2 St2) (x : ZSt s.heap z TI TO i1 i2 S St1 St2 i) (hS : S < s.heap.objs.size) (hlt1 : i < n1) (hlt2 : i < n2)
    (hQ : ∀ x1 x2 h' tk, P1 i x1 → P2 i x2 → ZSt h' z TI TO i1 i2 S St1 St2 (i + 1) → IsTupOf2 h' s.heap.objs.size x1 x2 → h'.objs.size = s.heap.objs.size + 1 →
      (∀ c o, c ≠ z → c ≠ TO → c ≠ i1 → c ≠ i2 → s.heap.get? c = some o → h'.get? c = some o) → Q (some (.ref s.heap.objs.size)) { s with heap := h', toks := tk }) :
    wpAny (model prog w) A (pyNext (.ref z)) Q E s := by
  obtain ⟨h1, h2, h3, h4⟩ := x
  have lt : ∀ {c o}, s.heap.get? c = some o → s.heap.objs.size ≠ c := fun e => Nat.ne_of_gt (Heap.lt_size e)
  have l1 : s.heap.objs.size ≠ i1 := by obtain ⟨_, e⟩ := D1.live _ _ h2; exact lt e
  have l2 : s.heap.objs.size ≠ i2 := by obtain ⟨_, e⟩ := D2.live _ _ h3; exact lt e
  rcases h4 with ⟨h4, a1, a2, h5⟩ | ⟨T, f, oT, h4, h5, t1, t2, t3, t4⟩
  · exact wpAny_pyNext_zipD2_item Sp D1 D2 h4 h1 h5 h2 h3 hlt1 hlt2 fun x1 x2 h' tk y1 y2 b1 b2 d1 d2 b5 b6 hk => hQ x1 x2 h' tk y1 y2 ⟨hk _ _ Sp.TIz Sp.TITO Sp.TIi1 Sp.TIi2 h1, d1, d2, .inr ⟨_, false, _, b1, b5, lt h4, l1, l2, Nat.ne_of_gt hS⟩⟩ b5 b6 hk
  · exact next_held Sp D1 D2 h4 h5 h1 h2 h3 hlt1 hlt2 fun x1 x2 h' tk y1 y2 b1 d1 d2 b5 b6 hk => hQ x1 x2 h' tk y1 y2 ⟨hk _ _ Sp.TIz Sp.TIi1 Sp.TIi2 h1, d1, d2, .inr ⟨T, true, oT, b1, hk _ _ t1 t2 t3 h5, t1, t2, t3, t4⟩⟩ b5 b6 fun c o e1 _ e3 e4 => hk c o e1 e3 e4
theorem zst_end {S : Addr} {Q : Option Value → Shared → Prop} (Sp : ZipSep2 z TI TO i1 i2 fp1 fp2) (D1 : Draws prog w A.in1 i1 fp1 n1 P1 St1) (D2 : Draws prog w A.in1 i2 fp2 n1 P2 St2) (x : ZSt s.heap z TI TO i1 i2 S St1 St2 n1)
    (hQ : ∀ h' tk, (∀ c o, c ≠ z → c ≠ TO → c ≠ i1 → c ≠ i2 → s.heap.get? c = some o → h'.get? c = some o) → Q none { s with heap := h', toks := tk }) : wpAny (model prog w) A (pyNext (.ref z)) Q E s := by
  obtain ⟨h1, h2, h3, h4⟩ := x
  rcases h4 with ⟨h4, a1, a2, h5⟩ | ⟨T, f, oT, h4, h5, t1, t2, t3, t4⟩
  · exact wpAny_pyNext_zipD2_end Sp D1 D2 h4 h1 h5 h2 h3 (Nat.le_refl _) (Nat.le_refl _) (.inl rfl) hQ
  · exact end_held Sp D1 h4 h5 h1 h2 fun h' tk hk => hQ h' tk fun c o e1 _ e3 e4 => hk c o e1 e3 e4
structure LzG (P1 P2 : Nat → Value → Prop) (lo : Addr) (h : Heap) (as : List Addr) : Prop where
  rise : as.Pairwise (· < ·)
  above : ∀ a ∈ as, lo < a
  pairs : ∀ (j : Nat) (a : Addr), as[j]? = some a → ∃ x1 x2, P1 j x1 ∧ P2 j x2 ∧ IsTupOf2 h a x1 x2
end
section
variable {prog : Program} {w : World} {A : Around} {s : Shared} {R : Result → Shared → Prop} {z TI TO i1 i2 : Addr} {fp1 fp2 : List Addr} {n : Nat} {P1 P2 : Nat → Value → Prop} {St1 St2 : Nat → Heap → Prop}
theorem lz_loop {S : Addr} (Sp : ZipSep2 z TI TO i1 i2 fp1 fp2) (D1 : Draws prog w A.in1.in1 i1 fp1 n P1 St1) (D2 : Draws prog w A.in1.in1 i2 fp2 n P2 St2) (zS : z < S) (tS : TO < S) (c1 : TI ≠ S) (s1 : i1 < S) (s2 : i2 < S) (c4 : S ∉ fp1) (c5 : S ∉ fp2) (hn : n ≤ sizeLine) (res : Value) {h₁ : Heap}
    (hR : ∀ h' tk acc c as, (∀ b o, b ≠ S → b ≠ z → b ≠ TO → b ≠ i1 → b ≠ i2 → h₁.get? b = some o → h'.get? b = some o) → h'.get? S = some { cls := .type "list", dict := none, data := .seq acc c, slots := #[] } → as.length = n → LzG P1 P2 S h' as →
      acc.toList = as.map Value.ref → R (.ok (.ret res)) { s with heap := h', toks := tk }) :
    ∀ (k i : Nat) (h : Heap) (tk c : Nat) (acc : Array Value) (as : List Addr), n - i = k → i ≤ n → ZSt h z TI TO i1 i2 S St1 St2 i → (∀ b o, b ≠ S → b ≠ z → b ≠ TO → b ≠ i1 → b ≠ i2 → h₁.get? b = some o → h.get? b = some o) →
      h.get? S = some { cls := .type "list", dict := none, data := .seq acc c, slots := #[] } → acc.toList = as.map Value.ref → as.length = i → LzG P1 P2 S h as →
      codeAny (model prog w) A (.builtin "list.extend.loop" ⟨[.ref S, .ref z, res], []⟩) R { s with heap := h, toks := tk } := by
  intro k
  induction k with
  | zero =>
    intro i h tk c acc as hk hi hst hkeep hS hacc hal hG
    have hin : i = n := by omega
    subst hin
    refine codeAny_builtin PySem.F.entry_extend_loop ?_
    rw [Around.under_plainId PySem.F.plain_extend_loop _]
    show wpAny _ A.in1 (pyNext (.ref z) >>= _) _ _ _
    refine wpAny_bind (zst_end (s := { s with heap := h, toks := tk }) (A := A.in1) Sp D1 D2 hst fun h' tk' he => ?_)
    refine wpAny_pure (hR h' tk' acc c as (fun b o h1 h2 h3 h4 h5 e => he b o h2 h3 h4 h5 (hkeep b o h1 h2 h3 h4 h5 e)) (he S _ (Nat.ne_of_gt zS) (Nat.ne_of_gt tS) (Nat.ne_of_gt s1) (Nat.ne_of_gt s2) hS) hal ⟨hG.rise, hG.above, fun j a hj => ?_⟩ hacc)
    obtain ⟨x1, x2, e1, e2, e3⟩ := hG.pairs j a hj
    have ha := hG.above a (List.mem_of_getElem? hj)
    exact ⟨x1, x2, e1, e2, he a _ (Nat.ne_of_gt (Nat.lt_trans zS ha)) (Nat.ne_of_gt (Nat.lt_trans tS ha)) (Nat.ne_of_gt (Nat.lt_trans s1 ha)) (Nat.ne_of_gt (Nat.lt_trans s2 ha)) e3⟩
  | succ k ih =>
    intro i h tk c acc as hk hi hst hkeep hS hacc hal hG
    have hlt : i < n := by omega
    have hsz : acc.size = i := by rw [← Array.length_toList, hacc, List.length_map, hal]
    have hSl : S < h.objs.size := Heap.lt_size hS
    refine codeAny_builtin PySem.F.entry_extend_loop ?_
    rw [Around.under_plainId PySem.F.plain_extend_loop _]
    show wpAny _ A.in1 (pyNext (.ref z) >>= _) _ _ _
    refine wpAny_bind (zst_item (s := { s with heap := h, toks := tk }) (A := A.in1) (S := S) Sp D1 D2 hst hSl hlt hlt fun x1 x2 h' tk' y1 y2 hst' ht hz hkp => ?_)
    dsimp only at ht hz hkp ⊢
    have hS' := hkp S _ (Nat.ne_of_gt zS) (Nat.ne_of_gt tS) (Nat.ne_of_gt s1) (Nat.ne_of_gt s2) hS
    have up : ∀ b o, b ≠ S → h'.get? b = some o → (h'.update S (Obj.mapSeq (·.push (Value.ref h.objs.size)))).get? b = some o := fun b o hb e => (Heap.get?_update_other _ _ (Ne.symm hb)).trans e
    show wpAny _ A.in1 (updateSeq S (·.push (Value.ref h.objs.size)) >>= _) _ _ _
    refine wpAny_bind ?_
    refine wpAny_updateSeq hS' rfl (wpAny_pure ⟨plainId_quiet PySem.F.plain_extend_loop _, ih (i + 1) _ tk' _ (acc.push (Value.ref h.objs.size)) (as ++ [h.objs.size]) (by omega) hlt (zst_keep Sp D1 D2 hst' up c1 (Nat.ne_of_lt zS) (Nat.ne_of_lt tS) c4 c5)
      (fun b o h1 h2 h3 h4 h5 e => up b o h1 (hkp b o h2 h3 h4 h5 (hkeep b o h1 h2 h3 h4 h5 e))) (Heap.get?_update_self _ hS' rfl) (by rw [Array.toList_push, hacc, List.map_append]; rfl) (by rw [List.length_append, hal]; rfl) ⟨?_, ?_, ?_⟩⟩) (by rw [hsz]; omega) (by show (acc.push (Value.ref h.objs.size)).size ≤ sizeLine + 1; rw [Array.size_push, hsz]; omega)
    · refine List.pairwise_append.mpr ⟨hG.rise, List.pairwise_singleton _ _, fun a ha b hb => ?_⟩
      rw [List.mem_singleton.mp hb]
      obtain ⟨j, hj⟩ := List.mem_iff_getElem?.mp ha
      obtain ⟨_, _, _, _, e⟩ := hG.pairs j a hj
      exact Heap.lt_size e
    · intro a ha
      rcases List.mem_append.mp ha with ha | ha
      · exact hG.above a ha
      · rw [List.mem_singleton.mp ha]; exact hSl
    · intro j b hj
      rcases Nat.lt_trichotomy j as.length with h1 | h1 | h1
      · rw [List.getElem?_append_left h1] at hj
        obtain ⟨x1', x2', e1, e2, e3⟩ := hG.pairs j b hj
        have hb := hG.above b (List.mem_of_getElem? hj)
        exact ⟨x1', x2', e1, e2, up b _ (Nat.ne_of_gt hb) (hkp b _ (Nat.ne_of_gt (Nat.lt_trans zS hb)) (Nat.ne_of_gt (Nat.lt_trans tS hb)) (Nat.ne_of_gt (Nat.lt_trans s1 hb)) (Nat.ne_of_gt (Nat.lt_trans s2 hb)) e3)⟩
      · subst h1
        have hb : h.objs.size = b := by simpa using hj
        subst hb
        exact ⟨x1, x2, by rw [hal]; exact y1, by rw [hal]; exact y2, up _ _ (Nat.ne_of_gt hSl) ht⟩
      · have hnone : (as ++ [h.objs.size])[j]? = none := List.getElem?_eq_none (by rw [List.length_append, List.length_singleton]; omega)
        rw [hnone] at hj; cases hj
end
theorem zip_no_len : typeLookup (.type "zip") "__len__" = pure none := am_miss_of_fast (by decide +kernel)
theorem zip_no_hint : typeLookup (.type "zip") "__length_hint__" = pure none := am_miss_of_fast (by decide +kernel)
section
variable {prog : Program} {w : World} {A : Around} {E : Value → Shared → Prop} {s : Shared} {r z TI TO i1 i2 : Addr} {fp1 fp2 : List Addr} {n : Nat} {P1 P2 : Nat → Value → Prop} {St1 St2 : Nat → Heap → Prop}
theorem zip_hint (hT : s.TypeIs (.ref r) "zip") {Q : Bool → Shared → Prop} (h : Q true s) : wpAny (model prog w) A (Builtin.List.listLengthHint (.ref r)) Q E s := by
  unfold Builtin.List.listLengthHint
  refine wpAny_bind (wpAny_specialOf hT zip_no_len ?_)
  refine wpAny_bind (wpAny_specialOf hT zip_no_hint ?_)
  exact wpAny_pure h

theorem lz_extend {R : Result → Shared → Prop} {S : Addr} (Sp : ZipSep2 z TI TO i1 i2 fp1 fp2) (D1 : Draws prog w A.in1.in1 i1 fp1 n P1 St1) (D2 : Draws prog w A.in1.in1 i2 fp2 n P2 St2) (zS : z < S) (tS : TO < S) (c1 : TI ≠ S) (s1 : i1 < S) (s2 : i2 < S) (c4 : S ∉ fp1) (c5 : S ∉ fp2) (hn : n ≤ sizeLine)
    (hz : IsZip s.heap z TI TO .none) (hst : ZSt s.heap z TI TO i1 i2 S St1 St2 0) (res : Value) (c₀ : Nat) (hS : s.heap.get? S = some { cls := .type "list", data := .seq #[] c₀ })
    (hR : ∀ h' tk acc c as, (∀ b o, b ≠ S → b ≠ z → b ≠ TO → b ≠ i1 → b ≠ i2 → s.heap.get? b = some o → h'.get? b = some o) → h'.get? S = some { cls := .type "list", dict := none, data := .seq acc c, slots := #[] } → as.length = n → LzG P1 P2 S h' as →
      acc.toList = as.map Value.ref → R (.ok (.ret res)) { s with heap := h', toks := tk }) :
    wpAny (model prog w) A.in1 (Builtin.List.listExtendWith (.ref S) (.ref z) res)
      (fun fin s' => match fin with | .done f => R (.ok f) s' | .again c' => c'.quiet = true ∧ codeAny (model prog w) A c' R s') (fun e s' => R (.error e) s') s := by
  have key : ∀ (h : Heap) (c₁ tk : Nat), (∀ b o, b ≠ S → s.heap.get? b = some o → h.get? b = some o) →
      h.get? S = some { cls := .type "list", data := .seq #[] c₁ } → codeAny (model prog w) A (.builtin "list.extend.loop" ⟨[.ref S, .ref z, res], []⟩) R { s with heap := h, toks := tk } := by
    intro h c₁ tk hk hS₁
    exact lz_loop (s := s) (h₁ := s.heap) Sp D1 D2 zS tS c1 s1 s2 c4 c5 hn res (fun h' tk' acc c as hk' hS' hl hG hacc => hR h' tk' acc c as hk' hS' hl hG hacc)
      n 0 h tk c₁ #[] [] (Nat.sub_zero _) (Nat.zero_le _) (zst_keep Sp D1 D2 hst hk c1 (Nat.ne_of_lt zS) (Nat.ne_of_lt tS) c4 c5) (fun b o hb _ _ _ _ e => hk b o hb e) hS₁ rfl rfl
      ⟨List.Pairwise.nil, (fun _ ha => nomatch ha), (fun j a hj => by simp at hj)⟩
  unfold Builtin.List.listExtendWith
  have hT : s.TypeIs (.ref z) "zip" := ⟨_, hz, rfl⟩
  refine wpAny_bind (wpAny_typeOf (T := "zip") hT ?_)
  have h1 : Builtin.List.listSameRef (.ref S) (.ref z) = false := by simp [Builtin.List.listSameRef, Nat.ne_of_gt zS]
  have h2 : (Value.type "zip" == Value.type "list") = false := by decide
  have h3 : (Value.type "zip" == Value.type "tuple") = false := by decide
  simp only [h1, h2, h3, Bool.or_false, Bool.false_eq_true, if_false]
  refine wpAny_bind (wpAny_pyIter_zip hz ?_)
  refine wpAny_bind (wpAny_holding (zip_hint hT ?_))
  refine wpAny_ite_split (fun _ => ?_) (fun _ => wpAny_pure ⟨plainId_quiet PySem.F.plain_extend_loop _, key _ c₀ _ (fun b o _ e => e) hS⟩)
  refine wpAny_bind (wpAny_rule ?_)
  refine wpAny_bind ?_
  show wpAny _ _ (updateSeq S (·.push .none) >>= fun _ => updateSeq S (·.pop)) _ _ _
  refine wpAny_bind (wpAny_updateSeq hS rfl ?_)
  have hS₂ := Heap.get?_update_self (Obj.mapSeq (·.push Value.none)) hS rfl
  refine wpAny_updateSeq (hz := by seq_fits) hS₂ rfl ?_
  have hS₃ := Heap.get?_update_self (Obj.mapSeq (·.pop)) hS₂ rfl
  refine wpAny_pure ⟨plainId_quiet PySem.F.plain_extend_loop _, key _ _ _ (fun b o hb e => ?_) hS₃⟩
  exact (Heap.get?_update_other _ _ (Ne.symm hb)).trans ((Heap.get?_update_other _ _ (Ne.symm hb)).trans e)
theorem lz_init {R : Result → Shared → Prop} {S : Addr} (Sp : ZipSep2 z TI TO i1 i2 fp1 fp2) (D1 : Draws prog w A.in1.in1 i1 fp1 n P1 St1) (D2 : Draws prog w A.in1.in1 i2 fp2 n P2 St2) (zS : z < S) (tS : TO < S) (c1 : TI ≠ S) (s1 : i1 < S) (s2 : i2 < S) (c4 : S ∉ fp1) (c5 : S ∉ fp2) (hn : n ≤ sizeLine)
    (hz : IsZip s.heap z TI TO .none) (hst : ZSt s.heap z TI TO i1 i2 S St1 St2 0) (hS : s.heap.get? S = some { cls := .type "list", data := .seq #[] })
    (hR : ∀ h' tk acc c as, (∀ b o, b ≠ S → b ≠ z → b ≠ TO → b ≠ i1 → b ≠ i2 → s.heap.get? b = some o → h'.get? b = some o) → h'.get? S = some { cls := .type "list", dict := none, data := .seq acc c, slots := #[] } → as.length = n → LzG P1 P2 S h' as →
      acc.toList = as.map Value.ref → R (.ok (.ret .none)) { s with heap := h', toks := tk }) :
    wpAny (model prog w) A.in1 (Builtin.«list.__init__» ⟨[.ref S, .ref z], []⟩)
      (fun fin s' => match fin with | .done f => R (.ok f) s' | .again c' => c'.quiet = true ∧ codeAny (model prog w) A c' R s') (fun e s' => R (.error e) s') s := by
  show wpAny _ _ (do let old ← Builtin.List.listItems (.ref S); Builtin.List.listUpdate (.ref S) (fun _ => #[]); letGo old.toList.reverse; Builtin.List.listExtendWith (.ref S) (.ref z) .none) _ _ s
  refine wpAny_bind ?_
  unfold Builtin.List.listItems
  refine wpAny_bind (wpAny_seqItems hS rfl (wpAny_pure ?_))
  show wpAny _ _ (updateSeq S (fun _ => #[]) >>= fun _ => letGo (#[] : Array Value).toList.reverse >>= fun _ => Builtin.List.listExtendWith (.ref S) (.ref z) .none) _ _ s
  refine wpAny_bind (wpAny_updateSeq hS rfl ?_)
  have hS₂ := Heap.get?_update_self (Obj.mapSeq (fun _ => (#[] : Array Value))) hS rfl
  have oth : ∀ b o, b ≠ S → s.heap.get? b = some o → (s.heap.update S (Obj.mapSeq (fun _ => (#[] : Array Value)))).get? b = some o :=
    fun b o hb e => (Heap.get?_update_other _ _ (Ne.symm hb)).trans e
  refine wpAny_bind (wpAny_letGo ?_)
  refine lz_extend Sp D1 D2 zS tS c1 s1 s2 c4 c5 hn (oth _ _ (Nat.ne_of_lt zS) hz) (zst_keep Sp D1 D2 hst oth c1 (Nat.ne_of_lt zS) (Nat.ne_of_lt tS) c4 c5) .none _ hS₂ (fun h' tk acc c as hk hS' hl hG hacc => ?_)
  exact hR h' tk acc c as (fun b o hb k2 k3 k4 k5 e => hk b o hb k2 k3 k4 k5 (oth b o hb e)) hS' hl hG hacc
theorem lz_call {Q : Value → Shared → Prop} (Sp : ZipSep2 z TI TO i1 i2 fp1 fp2) (D1 : Draws prog w A.in1.in1.in1 i1 fp1 n P1 St1) (D2 : Draws prog w A.in1.in1.in1 i2 fp2 n P2 St2) (hlt : z < s.heap.objs.size ∧ TO < s.heap.objs.size ∧ TI < s.heap.objs.size ∧ i1 < s.heap.objs.size ∧ i2 < s.heap.objs.size) (c4 : ∀ b ∈ fp1, b < s.heap.objs.size) (c5 : ∀ b ∈ fp2, b < s.heap.objs.size) (hn : n ≤ sizeLine)
    (hz : IsZip s.heap z TI TO .none) (hTO : ∃ a1 a2, IsTupOf2 s.heap TO a1 a2) (hTI : IsTupOf2 s.heap TI (.ref i1) (.ref i2)) (st1 : St1 0 s.heap) (st2 : St2 0 s.heap)
    (hQ : ∀ h' tk acc c as, (∀ b o, b ≠ z → b ≠ TO → b ≠ i1 → b ≠ i2 → s.heap.get? b = some o → h'.get? b = some o) → h'.get? s.heap.objs.size = some { cls := .type "list", dict := none, data := .seq acc c, slots := #[] } → as.length = n → LzG P1 P2 s.heap.objs.size h' as →
      acc.toList = as.map Value.ref → Q (.ref s.heap.objs.size) { s with heap := h', toks := tk }) :
    wpAny (model prog w) A (call (.type "list") [.ref z]) Q E s := by
  refine callType_codes (Q₁ := fun obj s₁ => obj = .ref s.heap.objs.size ∧ s₁ = { s with heap := s.heap.push { cls := .type "list", data := .seq #[] } }) PySem.F.called_list (PySem.F.typeCall_list_1 _) PySem.F.entry_list_init
    (code_list_new _ ⟨rfl, rfl⟩) fun obj s₁ h₁ => ?_
  obtain ⟨rfl, rfl⟩ := h₁
  have hS : (s.heap.push { cls := .type "list", data := .seq #[] }).get? s.heap.objs.size = some { cls := .type "list", data := .seq #[] } := Heap.get?_push_size _ rfl
  obtain ⟨a1, a2, hTO⟩ := hTO
  obtain ⟨l1, l2, l3, l4, l5⟩ := hlt
  have up : ∀ b o, s.heap.get? b = some o → (s.heap.push { cls := .type "list", data := .seq #[] }).get? b = some o := fun b o e => Heap.get?_push_of_some _ e
  refine ⟨⟨_, hS, rfl⟩, PySem.F.args_list_init_2 _ _, lz_init (A := A.in1) (s := { s with heap := s.heap.push { cls := .type "list", data := .seq #[] } }) Sp D1 D2 l1 l2 (Nat.ne_of_lt l3) l4 l5 (fun q => absurd (c4 _ q) (Nat.lt_irrefl _)) (fun q => absurd (c5 _ q) (Nat.lt_irrefl _)) hn (up _ _ hz)
    ⟨up _ _ hTI, D1.frame _ _ _ st1 fun b _ o e => up b o e, D2.frame _ _ _ st2 fun b _ o e => up b o e, .inl ⟨up _ _ hz, a1, a2, up _ _ hTO⟩⟩ hS (fun h' tk acc c as hk hS' hl hG hacc => ?_)⟩
  exact ⟨rfl, hQ h' tk acc c as (fun b o k2 k3 k4 k5 e => hk b o (Nat.ne_of_lt (Heap.lt_size e)) k2 k3 k4 k5 (up _ _ e)) hS' hl hG hacc⟩
end
end Lzp

namespace Lzp
open PySem PySem.Spec PyProof.Rows L2
/-- tuples tracked at their addresses -/
def putL : Hp → List Addr → List (List V) → Hp
  | H, a :: as, p :: ps => putL (upd H a (.tup p)) as ps
  | H, _, _ => H
theorem putL_off {b : Addr} : ∀ (as : List Addr) (ps : List (List V)) (H : Hp), b ∉ as → putL H as ps b = H b
  | [], _, _, _ => rfl
  | _ :: _, [], _, _ => rfl
  | a :: as, p :: ps, H, h => by
    show putL (upd H a (.tup p)) as ps b = H b
    rw [putL_off as ps _ (fun z => h (List.mem_cons_of_mem _ z)), upd_ne (fun z => h (by rw [z]; exact List.mem_cons_self))]
theorem putL_at : ∀ (as : List Addr) (ps : List (List V)) (H : Hp), as.length = ps.length → as.Nodup → ∀ (i : Nat) (a : Addr), as[i]? = some a → ∃ p, ps[i]? = some p ∧ putL H as ps a = some (.tup p)
  | [], [], _, _, _, _, _, e => by simp at e
  | [], _ :: _, _, h, _, _, _, _ => by cases h
  | _ :: _, [], _, h, _, _, _, _ => by cases h
  | a :: as, p :: ps, H, h, hn, i, b, e => by
    have hn' := List.nodup_cons.mp hn
    cases i with
    | zero =>
      have e : a = b := Option.some.inj e
      subst e
      exact ⟨p, rfl, by show putL (upd H a (.tup p)) as ps a = _; rw [putL_off as ps _ hn'.1, upd_same]⟩
    | succ i => exact putL_at as ps (upd H a (.tup p)) (Nat.succ.inj h) hn'.2 i b e
theorem laid_list {X : Cx} {pins : List (Addr × Obj)} {σ : L2.St} {H : Hp} {s : Shared} {h' : Heap} {tk : Nat} {acc : Array Value} {c : Nat} {L : Addr} {as : List Addr} {ps : List (List V)} (I : Inv X pins σ H s) (hz : as.length ≤ sizeLine) (hp2 : ∀ p ∈ ps, p.length ≤ sizeLine) (hk : ∀ b o, s.heap.get? b = some o → h'.get? b = some o)
    (hL : s.heap.objs.size ≤ L) (hS : h'.get? L = some { cls := .type "list", dict := none, data := .seq acc c, slots := #[] }) (hl : as.length = ps.length) (rise : as.Pairwise (· < ·)) (above : ∀ a ∈ as, L < a)
    (tups : ∀ (i : Nat) (a : Addr), as[i]? = some a → ∃ p us, ps[i]? = some p ∧ Vals p us ∧ h'.get? a = some { cls := .type "tuple", data := .seq us.toArray }) (hacc : acc.toList = as.map Value.ref) :
    ∃ H' : Hp, (∀ b o, H b = some o → H' b = some o) ∧ H L = none ∧ (∀ t ∈ as, H t = none) ∧ L ∉ as ∧ H' L = some (.lst (as.map V.ref)) ∧ (∀ (i : Nat) (a : Addr), as[i]? = some a → ∃ p, ps[i]? = some p ∧ H' a = some (.tup p)) ∧ Inv X pins σ H' { s with heap := h', toks := tk } := by
  have hSn : L ∉ as := fun z => Nat.lt_irrefl _ (above _ z)
  have nd : as.Nodup := List.Pairwise.imp (fun {a b} (h : a < b) => Nat.ne_of_lt h) rise
  have new : ∀ t ∈ as, H t = none := fun t ht => I.hok.fresh (Nat.le_trans hL (Nat.le_of_lt (above t ht)))
  have newS : H L = none := I.hok.fresh hL
  have atP := putL_at as ps (upd H L (.lst (as.map V.ref))) hl nd
  have off : ∀ b, b ∉ as → b ≠ L → putL (upd H L (.lst (as.map V.ref))) as ps b = H b := fun b h1 h2 => by rw [putL_off as ps _ h1, upd_ne h2]
  have low : ∀ b o, s.heap.get? b = some o → b ∉ as ∧ b ≠ L := fun b o e => ⟨fun z => absurd (Heap.lt_size e) (Nat.not_lt.mpr (Nat.le_trans hL (Nat.le_of_lt (above b z)))), fun z => absurd (Heap.lt_size e) (Nat.not_lt.mpr (by rw [z]; exact hL))⟩
  have kp : ∀ b u, H b = some u → (putL (upd H L (.lst (as.map V.ref))) as ps) b = some u := fun b u e => by
    rw [off b (fun z => by rw [new b z] at e; cases e) (fun z => by rw [z, newS] at e; cases e)]
    exact e
  have eS : putL (upd H L (.lst (as.map V.ref))) as ps L = some (.lst (as.map V.ref)) := by rw [putL_off as ps _ hSn, upd_same]
  refine ⟨putL (upd H L (.lst (as.map V.ref))) as ps, kp, newS, new, hSn, eS, atP, ?_⟩
  refine I.call' (ch := []) rfl ⟨fun b o q _ _ _ => hk b o q, fun b o q _ _ _ => ⟨o.slots, hk b o q⟩, fun b o q n _ => ?_, fun b o q _ => ⟨o, hk b o q⟩, fun b xs q => kp b _ q, fun b o u q => kp b _ q, fun b ps q => ⟨#[], by rw [kp b _ q]; simp⟩⟩ (fun b u q => ?_) I.bare fun b z => by simp at z
  · obtain ⟨z1, z2⟩ := low b o q
    rw [off b z1 z2]
    exact n
  · by_cases hb : b ∈ as
    · obtain ⟨j, hj⟩ := List.mem_iff_getElem?.mp hb
      obtain ⟨p, e1, e2⟩ := atP j b hj
      rw [e2] at q
      cases q
      obtain ⟨p', us, f1, f2, f3⟩ := tups j b hj
      rw [e1] at f1
      cases f1
      exact ⟨hp2 p (List.mem_of_getElem? e1), us, f2, ⟨_, f3, rfl, _, rfl⟩⟩
    · by_cases hb2 : b = L
      · rw [hb2] at q ⊢
        rw [eS] at q
        cases q
        refine ⟨by rw [List.length_map]; exact hz, acc.toList, c, by rw [hacc]; exact LiI.vals_refs as, ?_⟩
        rw [Array.toArray_toList]
        exact hS
      · rw [off b hb hb2] at q
        exact (I.hok b u q).stay (fun d v _ y => hk d v y) (fun d y => kp d _ y) fun d xs y => kp d _ y
def tListZip (K : PySem.W.Frag) (ta : TA) : TE := fun σ H Q => ta σ H fun vs H1 => ∃ a b xs ys, vs = [.ref a, .ref b] ∧ SqL K H1 a xs ∧ SqT K H1 b ys ∧ xs.length = ys.length ∧ xs.length ≤ sizeLine ∧
  ∀ (H' : Hp) (l : Addr) (ts : List Addr), (∀ b o, H1 b = some o → H' b = some o) → H1 l = none → (∀ t ∈ ts, H1 t = none) → l ∉ ts → H' l = some (.lst (ts.map V.ref)) → ts.length = xs.length → (∀ (i : Nat) (t : Addr), ts[i]? = some t → ∃ x y, xs[i]? = some x ∧ ys[i]? = some y ∧ H' t = some (.tup [x, y])) → Q (.ref l) H'
theorem vals_get {xs : List V} {us : List Value} (r : Vals xs us) : ∀ {i : Nat} {u : Value}, us[i]? = some u → ∃ x, xs[i]? = some x ∧ RelV x u := by
  induction r with
  | nil => intro i u h; simp at h
  | cons a t ih =>
    intro i u h
    cases i with
    | zero => cases h; exact ⟨_, rfl, a⟩
    | succ i => exact ih (i := i) h
theorem pe_listZip {X : Cx} {K : PySem.W.Frag} {e e2 : Expr} {ta : TA} {p p2 pos mpos : Pos} (hK : X.K = K) (hc : X.calm = true) (ha : PA X [e, e2] ta) (hg : Gl X "zip") (hm : X.mg "zip" = none) (hg2 : Gl X "list") (hm2 : X.mg "list" = none) (hv : bootBuiltins "list" = some (.type "list"))
    (hs : starEach [e, e2] X.env = (false, eval e X.env) :: starEach [e2] X.env := by rfl) (hpl : (backTo mpos (starEach [e2] X.env)).any (·.1) = false := by rfl)
    (hs2 : starEach [.Call (.Name "zip" p2) [e, e2] [] mpos] X.env = (false, eval (.Call (.Name "zip" p2) [e, e2] [] mpos) X.env) :: starEach [] X.env := by rfl) :
    PE X (.Call (.Name "list" p) [.Call (.Name "zip" p2) [e, e2] [] mpos] [] pos) (tListZip K ta) := by
  subst hK
  refine ⟨fun pins s σ H Q I h => ?_⟩
  refine wpAny_Call_Name_kw (ld_blt I hg2 hm2 hv ?_)
  refine PyProof.Rows.callWith_type1 ?_ hs2 rfl
  rw [hs2]
  show wpAny _ _ (spliced ((false, eval (.Call (.Name "zip" p2) [e, e2] [] mpos) X.env) :: backTo pos (starEach [] X.env))) _ _ s
  refine Calls.spliced_cons ?_
  refine Call_ (ld_blt I hg hm PyProof.Rows.boot_zip (PyProof.Rows.callWith_type1 (thn (ha.run mpos pins s σ H _ I h) fun us s1 ⟨vs, H1, I1, r1, q1⟩ => ?_) hs hpl))
  obtain ⟨a, b, xs, ys, ex, hqx, hqy, hl, hz, q⟩ := q1
  subst ex
  cases r1 with
  | cons r rr =>
    cases rr with
    | cons r' rr =>
      cases rr
      cases r
      cases r'
      obtain ⟨its, rv, p1, _⟩ := I1.list hqx
      obtain ⟨its2, rv2, p2', _⟩ := I1.tuple hqy
      obtain ⟨o2, ho2, _⟩ := id p2'
      have la : a < s1.heap.objs.size := p1.lt
      have lb : b < s1.heap.objs.size := Heap.lt_size ho2
      have li : its.toArray.size = its2.toArray.size := by rw [List.size_toArray, List.size_toArray, ← rv.length, ← rv2.length]; exact hl
      have ln : its.toArray.size ≤ sizeLine := by rw [List.size_toArray, ← rv.length]; exact hz
      have pT : s1.heap.IsTuple b its2.toArray := p2'
      refine zip_begins2 (begins_list a its.toArray) (begins_tuple b its2.toArray) p1.isList pT fun h' iz hTI hTO h1 h2 hsz hk => ?_
      have hh : X.A.handled = none := I.ok.hd hc
      refine Calls.spliced_nil ?_
      have D1 : Draws X.prog X.w X.A.in1.in1.in1 s1.heap.objs.size [s1.heap.objs.size, a] its.toArray.size _ _ := Draws.list (A := X.A.in1.in1.in1) hh s1.heap.objs.size a (Nat.ne_of_lt la) its.toArray
      have D2 : Draws X.prog X.w X.A.in1.in1.in1 (s1.heap.objs.size + 1) [s1.heap.objs.size + 1, b] its2.toArray.size _ _ := Draws.tuple (A := X.A.in1.in1.in1) hh (s1.heap.objs.size + 1) b (Nat.ne_of_lt (Nat.lt_succ_of_lt lb)) its2.toArray
      rw [← li] at D2
      have Sp := zip_sep2 (N := s1.heap.objs.size) (fp1 := [a]) (fp2 := [b]) (fun c h => by rw [List.mem_singleton.mp h]; exact la) (fun c h => by rw [List.mem_singleton.mp h]; exact lb)
      have N : ∀ k, k < 5 → s1.heap.objs.size + k < h'.objs.size := fun k hk => by rw [hsz]; exact Nat.add_lt_add_left hk _
      have up : ∀ c, c < s1.heap.objs.size → c < h'.objs.size := fun c hc => Nat.lt_trans hc (N 0 (by decide))
      have nz : ∀ {c : Addr} {o : Obj} (k : Nat), s1.heap.get? c = some o → c ≠ s1.heap.objs.size + k := fun k e z => absurd (Heap.lt_size e) (by rw [z]; exact Nat.not_lt.mpr (Nat.le_add_right _ _))
      have st2 : (fun i h => Heap.IsTupleIter h (s1.heap.objs.size + 1) b i ∧ Heap.IsTuple h b its2.toArray) 0 h' := ⟨⟨_, h2, rfl, rfl⟩, Heap.IsTuple.at pT fun o e => hk b o e⟩
      refine lz_call (s := { s1 with heap := h' }) (A := X.A) Sp D1 D2 ⟨N 4 (by decide), N 3 (by decide), N 2 (by decide), N 0 (by decide), N 1 (by decide)⟩ (fun c hcm => ?_) (fun c hcm => ?_) ln iz ⟨_, _, hTO⟩ hTI ⟨⟨_, h1, rfl, rfl⟩, p1.isList.at fun o e => hk a o e⟩ st2 fun h'' tk acc cc as hk2 hS hal hG hacc => ?_
      · rcases List.mem_cons.mp hcm with z | z
        · rw [z]; exact N 0 (by decide)
        · rw [List.mem_singleton.mp z]; exact up _ la
      · rcases List.mem_cons.mp hcm with z | z
        · rw [z]; exact N 1 (by decide)
        · rw [List.mem_singleton.mp z]; exact up _ lb
      have halx : as.length = xs.length := by rw [hal, List.size_toArray, ← rv.length]
      obtain ⟨H', k1, k2, k3, k4, k5, k6, J⟩ := laid_list (s := s1) (tk := tk) (L := h'.objs.size) (as := as) (ps := List.zipWith (fun x y => [x, y]) xs ys) I1 (by rw [halx]; exact hz) (fun p hp => by
          obtain ⟨i, hi⟩ := List.mem_iff_getElem?.mp hp
          rw [List.getElem?_zipWith] at hi
          split at hi
          · cases hi; exact (by decide : 2 ≤ sizeLine)
          · cases hi) (fun c o e => hk2 c o (nz 4 e) (nz 3 e) (nz 0 e) (nz 1 e) (hk c o e)) (by rw [hsz]; exact Nat.le_add_right _ _) hS (by rw [List.length_zipWith, ← hl, Nat.min_self]; exact halx) hG.rise hG.above (fun i t ht => by
          obtain ⟨x1, x2, e1, e2, e3⟩ := hG.pairs i t ht
          have e1 : its[i]? = some x1 := by rw [← List.getElem?_toArray]; exact e1
          have e2 : its2[i]? = some x2 := by rw [← List.getElem?_toArray]; exact e2
          obtain ⟨y1, f1, g1⟩ := vals_get rv e1
          obtain ⟨y2, f2, g2⟩ := vals_get rv2 e2
          refine ⟨[y1, y2], [x1, x2], by rw [List.getElem?_zipWith, f1, f2], .cons g1 (.cons g2 .nil), e3⟩) hacc
      refine ⟨.ref _, H', J, rfl, q H' _ as k1 k2 k3 k4 k5 halx fun i t ht => ?_⟩
      obtain ⟨p, e1, e2⟩ := k6 i t ht
      rw [List.getElem?_zipWith] at e1
      split at e1
      · rename_i x y f1 f2
        cases e1
        exact ⟨x, y, f1, f2, e2⟩
      · cases e1
end Lzp
local macro_rules | `(tactic| walk_at "hl") => `(tactic| first | assumption | exact L2.upd_same | (refine Bx.sat (by assumption) ?_; walk_at "hl"))
local macro_rules | `(tactic| walk_at "bx") => `(tactic| repeat (first
  | refine ⟨_, rfl, ?_⟩
  | refine ⟨_, _, rfl, rfl, ?_⟩
  | refine ⟨rfl, ?_⟩
  | refine Or.inl ⟨_, rfl, ?_⟩
  | refine ⟨Or.inr ⟨by decide, by decide⟩, ?_⟩
  | refine ⟨Or.inl ⟨by decide, by decide⟩, ?_⟩
  | refine ⟨(show (0 : Int) < _ by decide), ?_⟩
  | refine ⟨⟨by decide, by decide⟩, ?_⟩
  | refine ⟨_, _, rfl, Or.inl (L2.SqL.of (by walk_at "hl")), ?_⟩
  | refine ⟨_, _, rfl, Or.inr (L2.SqT.of (by walk_at "hl")), ?_⟩
  | refine ⟨Or.inl ⟨rfl, _, L2.SqL.of (by walk_at "hl")⟩, ?_⟩
  | refine ⟨_, _, _, rfl, rfl, (by walk_at "hl"), ?_⟩
  | refine ⟨_, _, rfl, rfl, (by walk_at "hl"), ?_⟩
  | refine ⟨_, _, _, _, rfl, rfl, L2.SqT.of (by walk_at "hl"), (by walk_at "hl"), ?_⟩
  | refine ⟨_, _, _, _, rfl, rfl, L2.SqL.of (by walk_at "hl"), (by walk_at "hl"), ?_⟩
  | refine ⟨_, _, rfl, Bx.SeqI.sq (by walk_at "hl"), ?_⟩
  | refine And.intro (by walk_at "hl") ?_))
local macro_rules | `(tactic| walk_at "nl") => `(tactic| ((try unfold L2.tNil); (try unfold L2.tNoPart)))

namespace My
open PySem PySem.Spec PyProof.Rows L2 Bx TL
def topS (i : Nat) : Stmt := PySem.Challenge.pw_reactivesynth_k41_minimize.main.body.getD i (.Pass ⟨0, 0, 0, 0⟩)
abbrev s_explore : Stmt := topS 1
abbrev N_explore : List Str := ["starts", "step", "numbers", "nodes", "start", "rows", "row", "node"]
theorem sc_explore : FnScope N_explore ["starts", "step"] (defScope s_explore) := ⟨rfl, rfl, rfl, by decide +kernel, rfl, by decide +kernel, by decide +kernel⟩
abbrev s_without_alike : Stmt := topS 3
abbrev lam_without_alike : Expr := Lm.lamIn ((defBody s_without_alike).getD 0 (.Pass ⟨0, 0, 0, 0⟩)) 1
abbrev N_without_alike_lam : List Str := ["state", "rows"]
theorem sc_without_alike_lam : Clo.CScope N_without_alike_lam ["state"] ["rows"] (Lm.lamS lam_without_alike) := Clo.cscope_by (by decide +kernel)
abbrev N_without_alike : List Str := ["start", "labels", "rows", "reached", "reached_rows", "classes", "members", "place", "number", "chosen", "small_rows", "state", "target"]
theorem sc_without_alike : FnScope N_without_alike ["start", "labels", "rows"] (defScope s_without_alike) := ⟨rfl, rfl, rfl, by decide +kernel, rfl, by decide +kernel, by decide +kernel⟩
abbrev s_alike_classes : Stmt := topS 4
abbrev N_alike_classes : List Str := ["labels", "rows", "classes", "count", "state", "row", "target"]
theorem sc_alike_classes : FnScope N_alike_classes ["labels", "rows"] (defScope s_alike_classes) := ⟨rfl, rfl, rfl, by decide +kernel, rfl, by decide +kernel, by decide +kernel⟩
abbrev s_numbered : Stmt := topS 5
abbrev N_numbered : List Str := ["values", "numbers", "found", "value"]
theorem sc_numbered : FnScope N_numbered ["values"] (defScope s_numbered) := ⟨rfl, rfl, rfl, by decide +kernel, rfl, by decide +kernel, by decide +kernel⟩
abbrev s_check_rows : Stmt := topS 15
abbrev N_check_rows : List Str := ["rows", "inputs", "row", "target", "_"]
theorem sc_check_rows : FnScope N_check_rows ["rows", "inputs"] (defScope s_check_rows) := ⟨rfl, rfl, rfl, by decide +kernel, rfl, by decide +kernel, by decide +kernel⟩
abbrev s_check_said : Stmt := topS 16
abbrev N_check_said : List Str := ["letters", "outputs", "letter"]
theorem sc_check_said : FnScope N_check_said ["letters", "outputs"] (defScope s_check_said) := ⟨rfl, rfl, rfl, by decide +kernel, rfl, by decide +kernel, by decide +kernel⟩
abbrev s_run : Stmt := topS 17
abbrev N_run : List Str := ["machine", "state", "heard", "emitted", "letter", "said"]
theorem sc_run : FnScope N_run ["machine", "state", "heard"] (defScope s_run) := ⟨rfl, rfl, rfl, by decide +kernel, rfl, by decide +kernel, by decide +kernel⟩
abbrev s_minimize : Stmt := topS 19
abbrev N_minimize : List Str := ["machine", "emitted", "targets", "states", "small_rows", "rows", "row", "_", "letter", "target", "state"]
theorem sc_minimize : FnScope N_minimize ["machine"] (defScope s_minimize) := ⟨rfl, rfl, rfl, by decide +kernel, rfl, by decide +kernel, by decide +kernel⟩
abbrev s_separating_word : Stmt := topS 20
abbrev N_separating_word : List Str := ["first", "second", "words", "waiting", "at", "one", "two", "word", "letter", "target", "said", "other_target", "other_said"]
theorem sc_separating_word : FnScope N_separating_word ["first", "second"] (defScope s_separating_word) := ⟨rfl, rfl, rfl, by decide +kernel, rfl, by decide +kernel, by decide +kernel⟩
abbrev s_law_draws : Stmt := topS 22
abbrev N_law_draws : List Str := ["script", "count", "cells", "found", "mixed", "k", "j", "cell", "again"]
theorem sc_law_draws : FnScope N_law_draws ["script", "count"] (defScope s_law_draws) := ⟨rfl, rfl, rfl, by decide +kernel, rfl, by decide +kernel, by decide +kernel⟩
abbrev s_law_take : Stmt := topS 23
abbrev N_law_take : List Str := ["draws", "limit"]
theorem sc_law_take : FnScope N_law_take ["draws", "limit"] (defScope s_law_take) := ⟨rfl, rfl, rfl, by decide +kernel, rfl, by decide +kernel, by decide +kernel⟩
abbrev s_law_is_integer : Stmt := topS 24
abbrev N_law_is_integer : List Str := ["actual"]
theorem sc_law_is_integer : FnScope N_law_is_integer ["actual"] (defScope s_law_is_integer) := ⟨rfl, rfl, rfl, by decide +kernel, rfl, by decide +kernel, by decide +kernel⟩
abbrev s_law_integers : Stmt := topS 25
abbrev N_law_integers : List Str := ["actual", "low", "high", "item"]
theorem sc_law_integers : FnScope N_law_integers ["actual", "low", "high"] (defScope s_law_integers) := ⟨rfl, rfl, rfl, by decide +kernel, rfl, by decide +kernel, by decide +kernel⟩
abbrev s_law_flat : Stmt := topS 26
abbrev N_law_flat : List Str := ["rows", "row"]
theorem sc_law_flat : FnScope N_law_flat ["rows"] (defScope s_law_flat) := ⟨rfl, rfl, rfl, by decide +kernel, rfl, by decide +kernel, by decide +kernel⟩
abbrev s_law_machine : Stmt := topS 27
abbrev N_law_machine : List Str := ["draws", "inputs", "outputs", "lead", "most", "count", "opening", "rows", "state", "row", "letter", "target", "k"]
theorem sc_law_machine : FnScope N_law_machine ["draws", "inputs", "outputs", "lead", "most"] (defScope s_law_machine) := ⟨rfl, rfl, rfl, by decide +kernel, rfl, by decide +kernel, by decide +kernel⟩
abbrev s_law_is_machine : Stmt := topS 28
abbrev N_law_is_machine : List Str := ["actual", "inputs", "outputs", "lead", "number", "row", "pair"]
theorem sc_law_is_machine : FnScope N_law_is_machine ["actual", "inputs", "outputs", "lead"] (defScope s_law_is_machine) := ⟨rfl, rfl, rfl, by decide +kernel, rfl, by decide +kernel, by decide +kernel⟩
abbrev s_law_alike : Stmt := topS 29
abbrev N_law_alike : List Str := ["rows", "count", "alike", "turn", "after", "j", "row", "k", "same", "letter", "one", "two"]
theorem sc_law_alike : FnScope N_law_alike ["rows"] (defScope s_law_alike) := ⟨rfl, rfl, rfl, by decide +kernel, rfl, by decide +kernel, by decide +kernel⟩
abbrev s_law_least : Stmt := topS 30
abbrev N_law_least : List Str := ["rows", "alike", "first", "order", "at", "pair", "least", "state", "row"]
theorem sc_law_least : FnScope N_law_least ["rows"] (defScope s_law_least) := ⟨rfl, rfl, rfl, by decide +kernel, rfl, by decide +kernel, by decide +kernel⟩
abbrev s_law : Stmt := topS 31
abbrev N_law : List Str := ["script", "draws", "inputs", "outputs", "lead", "opening", "rows", "machine", "found", "again", "small", "row"]
theorem sc_law : FnScope N_law ["script"] (defScope s_law) := ⟨rfl, rfl, rfl, by decide +kernel, rfl, by decide +kernel, by decide +kernel⟩
abbrev s_Machine_init : Stmt := inClass (topS 14) 0
abbrev N_Machine_init : List Str := ["self", "inputs", "outputs", "lead", "opening", "rows", "row", "_", "letter", "target"]
theorem sc_Machine_init : FnScope N_Machine_init ["self", "inputs", "outputs", "lead", "opening", "rows"] (defScope s_Machine_init) := ⟨rfl, rfl, rfl, by decide +kernel, rfl, by decide +kernel, by decide +kernel⟩
abbrev s_Machine_call : Stmt := inClass (topS 14) 1
abbrev N_Machine_call : List Str := ["self", "heard", "letter", "said", "_", "emitted"]
theorem sc_Machine_call : FnScope N_Machine_call ["self", "heard"] (defScope s_Machine_call) := ⟨rfl, rfl, rfl, by decide +kernel, rfl, by decide +kernel, by decide +kernel⟩
structure Has (K : PySem.W.Frag) (mg : Str → Option Value) (x : Str) (st : Stmt) (ps : List Str) : Prop where
  ex : ∃ (f : Addr) (fd : FuncData), L2.Fun K x x st f fd ∧ mg x = some (.ref f) ∧ Binds K fd ps []
def nm0 : Nat → Nat → Str := fun l _ => ("without_alike" ++ ".<locals>." ++ "<lambda>" : Str)
abbrev TbT (PA0 : Addr) : List NdefX.NTab := [(PA0, nm0)]
theorem TbT_mem0 {PA0 : Addr} : (PA0, nm0) ∈ TbT PA0 := by simp [TbT]
theorem TbT_u0 {PA0 : Addr} : ∀ p ∈ TbT PA0, p.1 = PA0 → p.2 = nm0 := fun p hp _ => by rw [List.mem_singleton.mp hp]
structure Txt (K : PySem.W.Frag) (mg : Str → Option Value) (cA0 PA0 : Addr) : Prop where
  h_explore : Has K mg "explore" s_explore ["starts", "step"]
  h_without_alike : Clo.HasC K mg "without_alike" s_without_alike ["start", "labels", "rows"] cA0
  h_alike_classes : Has K mg "alike_classes" s_alike_classes ["labels", "rows"]
  h_numbered : Has K mg "numbered" s_numbered ["values"]
  h_check_rows : Has K mg "check_rows" s_check_rows ["rows", "inputs"]
  h_check_said : Has K mg "check_said" s_check_said ["letters", "outputs"]
  h_run : Has K mg "run" s_run ["machine", "state", "heard"]
  h_minimize : Has K mg "minimize" s_minimize ["machine"]
  h_separating_word : Has K mg "separating_word" s_separating_word ["first", "second"]
  h_law_draws : Has K mg "_law_draws" s_law_draws ["script", "count"]
  h_law_take : Has K mg "_law_take" s_law_take ["draws", "limit"]
  h_law_is_integer : Has K mg "_law_is_integer" s_law_is_integer ["actual"]
  h_law_integers : Has K mg "_law_integers" s_law_integers ["actual", "low", "high"]
  h_law_flat : Has K mg "_law_flat" s_law_flat ["rows"]
  h_law_machine : Has K mg "_law_machine" s_law_machine ["draws", "inputs", "outputs", "lead", "most"]
  h_law_is_machine : Has K mg "_law_is_machine" s_law_is_machine ["actual", "inputs", "outputs", "lead"]
  h_law_alike : Has K mg "_law_alike" s_law_alike ["rows"]
  h_law_least : Has K mg "_law_least" s_law_least ["rows"]
  z_bool : mg "bool" = none
  z_enumerate : mg "enumerate" = none
  z_int : mg "int" = none
  z_isinstance : mg "isinstance" = none
  z_len : mg "len" = none
  z_list : mg "list" = none
  z_max : mg "max" = none
  z_range : mg "range" = none
  z_tuple : mg "tuple" = none
  z_zip : mg "zip" = none
  er : ∃ (cX cI cL C fI fC : Addr) (fdI fdC : FuncData) (tk1 tk2 : Tok), ErrC K mg "InvalidMachine" cI ∧ ErrC K mg "InvalidLetter" cL ∧ MchC K C ∧ Mk K C fI ∧ mg "Machine" = some (.ref C) ∧ L2.Fun K "__init__" "Machine.__init__" s_Machine_init fI fdI ∧ Binds K fdI ["self", "inputs", "outputs", "lead", "opening", "rows"] [] ∧ StX.CallO K C fC ∧ L2.Fun K "__call__" "Machine.__call__" s_Machine_call fC fdC ∧ Binds K fdC ["self", "heard"] [] ∧ mg "LEAST_LEAD" = some (.int (-3) tk1) ∧ mg "GREATEST_LEAD" = some (.int 2 tk2) ∧ ErrC K mg "Mismatch" cX

-- BODY
def spLaw (K : PySem.W.Frag) (PA0 : Addr) : Sp := fun vs H Q _ => ∃ (a : Addr) (ns : List Int), vs = [.ref a] ∧ SqL K H a (ns.map V.int) ∧ ns.length ≤ 63 ∧ H PA0 = some (.tbl #[]) ∧ ∀ H', Q (.bl true) H'
section
variable {P : Program} {w : World} {K : PySem.W.Frag} {mg : Str → Option Value} {base : Heap} {cA0 PA0 : Addr}
/-! explore: the nodes are numbers, the step is a lambda that was made elsewhere -/
open Bq in
def entI : List Nat → Nat → List (Key × V)
  | [], _ => []
  | x :: l, i => (.inl (x : Int), VN i) :: entI l (i + 1)
theorem entI_len : ∀ {l : List Nat} {i : Nat}, (entI l i).length = l.length
  | [], _ => rfl
  | x :: l, i => by show (entI l (i + 1)).length + 1 = l.length + 1; rw [entI_len]
theorem entI_snoc {x : Nat} : ∀ {l : List Nat} {i : Nat}, entI (l ++ [x]) i = entI l i ++ [(.inl (x : Int), VN (i + l.length))]
  | [], _ => rfl
  | y :: l, i => by
    show (Sum.inl (y : Int), VN i) :: entI (l ++ [x]) (i + 1) = (Sum.inl (y : Int), VN i) :: (entI l (i + 1) ++ _)
    rw [entI_snoc, List.length_cons, show i + 1 + l.length = i + (l.length + 1) by omega]
theorem entI_val (z : Nat) : ∀ {l : List Nat} {i : Nat}, valV (entI l i) (Sum.inl (z : Int) : Key) = if z ∈ l then some (VN (l.idxOf z + i)) else none
  | [], _ => by rw [if_neg List.not_mem_nil]; rfl
  | x :: l, i => by
    by_cases e : x = z
    · subst e
      rw [show entI (x :: l) i = (Sum.inl (x : Int), VN i) :: entI l (i + 1) from rfl, valV_pos rfl, if_pos List.mem_cons_self, List.idxOf_cons_self, Nat.zero_add]
    · rw [show entI (x :: l) i = (Sum.inl (x : Int), VN i) :: entI l (i + 1) from rfl, valV_neg (fun h => e (Int.ofNat.inj (Sum.inl.inj h))), entI_val z]
      have hiff : z ∈ x :: l ↔ z ∈ l := by simp [show z ≠ x from fun h => e h.symm]
      simp only [hiff]
      split
      · rw [List.idxOf_cons, show (x == z) = false by simpa using e]
        show some (VN (l.idxOf z + (i + 1))) = some (VN (l.idxOf z + 1 + i))
        rw [show l.idxOf z + (i + 1) = l.idxOf z + 1 + i by omega]
      · rfl
theorem entI_put {l : List Nat} {x : Nat} (h : x ∉ l) : putK (entI l 0) (Sum.inl (x : Int) : Key) (VN l.length) = entI (l ++ [x]) 0 := by
  rw [putK_new _ (by rw [entI_val, if_neg h]), entI_snoc, Nat.zero_add]
/-- a list of lists of numbers -/
def RwL (H : Hp) (r : Addr) (rows : List (List Nat)) : Prop := ∃ as : List Addr, H r = some (.lst (as.map V.ref)) ∧ as.length = rows.length ∧ ∀ (i : Nat) (a : Addr), as[i]? = some a → ∃ row, rows[i]? = some row ∧ H a = some (.lst (row.map VN))
theorem RwL.same {H H' : Hp} {r : Addr} {rows : List (List Nat)} (s : Same H H') (h : RwL H r rows) : RwL H' r rows := by
  obtain ⟨as, h1, h2, h3⟩ := h
  exact ⟨as, s _ _ h1, h2, fun i a e => by obtain ⟨row, q1, q2⟩ := h3 i a e; exact ⟨row, q1, s _ _ q2⟩⟩
/-- what a step of the exploration does -/
def StpL (F : NdefX.NF) (ws : List (Option V)) (nx : Nat → List Nat) (U : Nat) (H : Hp) (sp : List (Option V) → Sp) : Prop := ∀ (H' : Hp) (k : Nat) (Q : VK), Same H H' → k < U →
  (∀ (H2 : Hp) (l : Addr), Same H' H2 → H l = some (.lst ((nx k).map VN)) → Q (.ref l) H2) → Clo.CloC sp ws [VN k] F H' Q
def spExp (P : Program) (w : World) (K : PySem.W.Frag) (mg : Str → Option Value) (base : Heap) (lev : Nat) : Sp := fun vs H Q _ => ∃ (st f : Addr) (F : NdefX.NF) (e : Expr) (ps fr : List Str) (ws : List (Option V)) (sp : List (Option V) → Sp) (k : Nat) (s : Nat) (nx : Nat → List Nat) (U : Nat),
  vs = [.ref st, .ref f] ∧ H f = some (Lm.LmO f F e) ∧ H F.c = some (LamX.CodeO F.c F.qual) ∧ Clo.Cel F fr ws H ∧ k ≤ lev ∧ Lm.LOk P w K mg base k f F e ps fr sp ∧ StpL F ws nx U H sp ∧ H st = some (.lst [VN s]) ∧ s < U ∧ (∀ k, k < U → ∀ t ∈ nx k, t < U) ∧ U ≤ 100 ∧ (∀ k, (nx k).length ≤ 100) ∧
  ∀ (H' : Hp) (p nl gl : Addr) (ns : List Nat), Same H H' → H' p = some (.tup [.ref nl, .ref gl]) → H' nl = some (.lst (ns.map VN)) → RwL H' gl (ns.map fun k => (nx k).map ns.idxOf) → Bq.Ord s nx ns → Q (.ref p) H'
structure Xs (H0 : Hp) (d N : Addr) (ns : List Nat) (H' : Hp) : Prop where
  same : Same H0 H'
  ed : H' d = some (.dK (entI ns 0))
  en : H' N = some (.lst (ns.map VN))
theorem Xs.keep {H0 H' H'' : Hp} {d N : Addr} {ns : List Nat} (x : Xs H0 d N ns H') (s : Same H' H'') : Xs H0 d N ns H'' := ⟨x.same.trans s, s _ _ x.ed, s _ _ x.en⟩
structure Rws (nx : Nat → List Nat) (ns : List Nat) (R N : Addr) (rs : List Addr) (H : Hp) : Prop where
  at_ : H R = some (.lst (rs.map V.ref))
  get : ∀ (j : Nat) (y : Addr), rs[j]? = some y → y ≠ R ∧ y ≠ N ∧ ∃ k, ns[j]? = some k ∧ (∀ t ∈ nx k, t ∈ ns) ∧ H y = some (.lst (((nx k).map ns.idxOf).map VN))
theorem Rws.keep {nx : Nat → List Nat} {ns : List Nat} {R N : Addr} {rs : List Addr} {H H' : Hp} (x : Rws nx ns R N rs H) (s : Same H H') : Rws nx ns R N rs H' := ⟨s _ _ x.at_, fun j y e => by
  obtain ⟨n1, n2, k, h1, h2, h3⟩ := x.get j y e
  exact ⟨n1, n2, k, h1, h2, s _ _ h3⟩⟩
theorem map_idx {l ns t : List Nat} (h : ∀ x ∈ l, x ∈ ns) : l.map (ns ++ t).idxOf = l.map ns.idxOf := List.map_congr_left fun x hx => Bq.idx_pre (h x hx)
/-- a node that is new, put into the dict and the list -/
theorem xs_put {H0 H' : Hp} {d N : Addr} {ns : List Nat} {k : Nat} (x : Xs H0 d N ns H') (nd : H0 d = none) (nN : H0 N = none) (ndN : N ≠ d) (hk : k ∉ ns) :
    Xs H0 d N (ns ++ [k]) (upd (upd H' d (.dK (putK (entI ns 0) (Sum.inl (k : Int)) (VN ns.length)))) N (.lst (ns.map VN ++ [VN k]))) := by
  refine ⟨fun b o e => ?_, ?_, ?_⟩
  · rw [upd_ne (ne_of_none e nN), upd_ne (ne_of_none e nd)]; exact x.same _ _ e
  · rw [upd_ne ndN.symm, upd_same, entI_put hk]
  · rw [upd_same, List.map_append]; rfl
theorem Rws.grow {nx : Nat → List Nat} {ns : List Nat} {R N d : Addr} {rs : List Addr} {H : Hp} {k : Nat} {o : HO} {l2 : List V} {es : List (Key × V)} (x : Rws nx ns R N rs H) (hd : H d = some (.dK es)) (nRN : R ≠ N) : Rws nx (ns ++ [k]) R N rs (upd (upd H d o) N (.lst l2)) := by
  have nd : ∀ {b : Addr} {xs : List V}, H b = some (.lst xs) → b ≠ d := fun e z => by rw [z, hd] at e; cases e
  refine ⟨by rw [upd_ne nRN, upd_ne (nd x.at_)]; exact x.at_, fun j y e => ?_⟩
  obtain ⟨n1, n2, k', h1, h2, h3⟩ := x.get j y e
  exact ⟨n1, n2, k', by rw [List.getElem?_append_left (lt_of_get h1)]; exact h1, fun t ht => List.mem_append_left _ (h2 t ht), by rw [upd_ne n2, upd_ne (nd h3), map_idx h2]; exact h3⟩
theorem ad_new {ns : List Nat} {k : Nat} (h : k ∉ ns) : Bq.ad ns k = ns ++ [k] := if_neg h
theorem ad_old {ns : List Nat} {k : Nat} (h : k ∈ ns) : Bq.ad ns k = ns := if_pos h
theorem cal_exp {lev : Nat} (hlev : 1 ≤ lev) (T : Txt K mg cA0 PA0) : C8.Cal P w K mg base (lev + 1) "explore" (spExp P w K mg base lev) [] := by
  obtain ⟨f, fd, F, hm, hb⟩ := T.h_explore
  refine ⟨f, fd, _, [], F.ok sc_explore (fun vs H Q E h => ?_) (fun cdv A outer s H vs Q E hr h => ?_), hm, F.kp, hb, .nil⟩
  · obtain ⟨st, f, F, e, ps, fr, ws, sp, k, s, nx, U, rfl, _⟩ := h
    rfl
  · obtain ⟨st, fa, FF, le, ps, fr, ws, sp, kl, s0, nx, U, rfl, hf, hcd, hC, hkl, hN, hS, est, hsU, hUU, hUl, hnl2, q⟩ := h
    refine ⟨_, (pss_cons
      (ps_set (i := 2) sc_explore.nd rfl (Or.inl rfl) pe_dnewK)
      (pss_cons
      (ps_set (i := 3) sc_explore.nd rfl (Or.inl rfl) (pe_lst pa_nil))
      (pss_cons
      (ps_for PassesOwn.never rfl (pi_list (pv 0)) (pg_name (i := 4) sc_explore.nd rfl (.inl rfl)) (pss_one
      (ps_if (pt_cmp (pc_dnotin (hu_of hr) (pv 4) (pv 2))) (pss_cons
      (ps_dput (hu_of hr) (pv 2) (pv 4) (pe_callB (call_lenK (K := K) rfl) (by rfl) T.z_len PySem.boot_len (pa_cons (pv 3) pa_nil)) rfl)
      (pss_one
      (ps_expr (pe_bm PySem.F.plainAttrs_list PySem.F.slot_list_append PySem.F.type_list_append mt_append (pv 3) (pa_cons (pv 4) pa_nil))))) pss_nil)))
      (pss_cons
      (ps_set (i := 5) sc_explore.nd rfl (Or.inl rfl) (pe_lst pa_nil))
      (C8.pss_cut
      (ps_while PassesOwn.never (pt_cmpR op_lt (pe_callB (call_lenK (K := K) rfl) (by rfl) T.z_len PySem.boot_len (pa_cons (pv 5) pa_nil)) (pe_callB (call_lenK (K := K) rfl) (by rfl) T.z_len PySem.boot_len (pa_cons (pv 3) pa_nil)) (nomark _)) (pss_cons
      (ps_set (i := 6) sc_explore.nd rfl (Or.inl rfl) (pe_lst pa_nil))
      (pss_cons
      (ps_for PassesOwn.never rfl (pi_list (Lm.pe_callL (i := 1) hr rfl (by first | exact Or.inl rfl | exact Or.inr (Or.inl rfl) | exact Or.inr (Or.inr rfl)) (pa_cons (pe_ix (ix_listK (K := K) rfl) (pv 3) (pe_callB (call_lenK (K := K) rfl) (by rfl) T.z_len PySem.boot_len (pa_cons (pv 5) pa_nil)) (fun _ _ => rfl)) pa_nil))) (pg_name (i := 7) sc_explore.nd rfl (.inl rfl)) (C8.pss_cut
      (ps_if (pt_cmp (pc_dnotin (hu_of hr) (pv 7) (pv 2))) (pss_cons
      (ps_dput (hu_of hr) (pv 2) (pv 7) (pe_callB (call_lenK (K := K) rfl) (by rfl) T.z_len PySem.boot_len (pa_cons (pv 3) pa_nil)) rfl)
      (pss_one
      (ps_expr (pe_bm PySem.F.plainAttrs_list PySem.F.slot_list_append PySem.F.type_list_append mt_append (pv 3) (pa_cons (pv 7) pa_nil))))) pss_nil)
      (pss_one
      (ps_expr (pe_bm PySem.F.plainAttrs_list PySem.F.slot_list_append PySem.F.type_list_append mt_append (pv 6) (pa_cons (pe_dget (hu_of hr) (pv 2) (pv 7) (fun _ _ => rfl)) pa_nil))))))
      (pss_one
      (ps_expr (pe_bm PySem.F.plainAttrs_list PySem.F.slot_list_append PySem.F.type_list_append mt_append (pv 5) (pa_cons (pv 6) pa_nil)))))))
      (pss_one
      (ps_ret (pe_tup (pa_cons (pv 3) (pa_cons (pv 5) pa_nil)))))))))), ?_⟩
    refine fun d nd => ?_
    generalize hX : upd H d _ = H1; obtain ⟨sH1, ed⟩ := nw nd hX; clear hX
    refine ⟨Nat.zero_le _, fun N nN => ?_⟩
    have nN0 := sH1.free nN
    have ndN : N ≠ d := fun z => by rw [z, ed] at nN; cases nN
    generalize hX : upd H1 N _ = H2; obtain ⟨sH2, eN⟩ := nw nN hX; clear hX
    have X0 : Xs H d N [] H2 := ⟨sH1.trans sH2, sH2 _ _ ed, eN⟩
    -- the start
    refine ⟨_, rfl, st, rfl, ⟨_, .of (X0.same _ _ est)⟩, for_list (K := K) (a := st) (xs := [VN s0]) (fun i σ H' => ∃ (v4 : Option V), σ = [some (.ref st), some (.ref fa), some (.ref d), some (.ref N), v4, none, none, none] ∧ Xs H d N ([s0].take i) H')
      ⟨none, rfl, X0⟩ (fun i σ H' _ ⟨_, _, x⟩ => .of (x.same _ _ est)) ?_ ?_⟩
    · rintro i v σ H3 hi ⟨v4, rfl, x⟩
      have hi0 : i = 0 := by
        have := (List.getElem?_eq_some_iff.mp hi).1
        simp at this
        omega
      subst hi0
      cases hi
      refine ⟨_, rfl, _, rfl, d, _, rfl, DGet.k (k := Sum.inl (s0 : Int)) x.ed, _, rfl, ?_⟩
      refine iteB_t rfl ⟨_, rfl, N, _, rfl, .inl (.of x.en), _, rfl, _, rfl, d, _, rfl, .k (k := Sum.inl (s0 : Int)) x.ed (show 0 < sizeLine by decide), ?_⟩
      have xp := xs_put (k := s0) x nd nN0 ndN (by simp)
      have en3 := x.en
      refine ⟨_, rfl, .inl ⟨rfl, _, .of (by rw [upd_ne ndN]; exact en3)⟩, _, rfl, N, _, _, rfl, rfl, by rw [upd_ne ndN]; exact en3, by exact (show 0 < sizeLine by decide), ?_⟩
      exact ⟨_, rfl, xp⟩
    rintro σ H3 ⟨v4, rfl, x3⟩
    have x3 : Xs H d N [s0] H3 := x3
    clear X0 sH1 sH2 ed eN nN
    refine ⟨Nat.zero_le _, fun R nR => ?_⟩
    have nR0 := x3.same.free nR
    have nRN : R ≠ N := fun z => by rw [z, x3.en] at nR; cases nR
    have nRd : R ≠ d := fun z => by rw [z, x3.ed] at nR; cases nR
    generalize hX : upd H3 R _ = H4; obtain ⟨sH4, eR⟩ := nw nR hX; clear hX
    have x4 := x3.keep sH4
    have hU : ∀ k, ∀ x ∈ Bq.GG s0 nx k, x < U := Bq.gg_in (U := (· < U)) hsU hUU
    have hGl : ∀ k, (Bq.GG s0 nx k).length ≤ U := fun k => by
      have := List.Nodup.length_le_of_subset (Bq.gg_nd s0 nx k) (l₂ := List.range U) fun x hx => List.mem_range.mpr (hU k x hx)
      rwa [List.length_range] at this
    refine ⟨fun σ H' => ∃ (v4 v6 v7 : Option V) (rs : List Addr), σ = [some (.ref st), some (.ref fa), some (.ref d), some (.ref N), v4, some (.ref R), v6, v7] ∧ Xs H d N (Bq.GG s0 nx rs.length) H' ∧ Rws nx (Bq.GG s0 nx rs.length) R N rs H' ∧ (Bq.GG s0 nx rs.length).length = rs.length, ?_, ?_⟩
    · refine ⟨fun m σ H' => ∃ (v4 v6 v7 : Option V) (rs : List Addr), m = U - rs.length ∧ σ = [some (.ref st), some (.ref fa), some (.ref d), some (.ref N), v4, some (.ref R), v6, v7] ∧ Xs H d N (Bq.GG s0 nx rs.length) H' ∧ Rws nx (Bq.GG s0 nx rs.length) R N rs H' ∧ rs.length ≤ (Bq.GG s0 nx rs.length).length, ⟨_, v4, none, none, [], rfl, rfl, x4, ⟨eR, fun j y e => by (cases e)⟩, Nat.zero_le _⟩, ?_⟩
      clear x4 x3 sH4 eR
      rintro m σ H5 ⟨v4, v6, v7, rs, rfl, rfl, x5, r5, hle⟩
      have hnl := hGl rs.length
      refine ⟨_, rfl, R, _, rfl, .inl (.of r5.at_), _, rfl, N, _, rfl, .inl (.of x5.en), _, _, rfl, rfl, _, rfl, ?_⟩
      rw [List.length_map, List.length_map]
      by_cases c0 : rs.length < (Bq.GG s0 nx rs.length).length
      · rw [decide_eq_true (by omega)]
        refine iteB_t rfl ⟨_, fun σ' H'' z => z, ?_⟩
        refine ⟨Nat.zero_le _, fun wl nwl => ?_⟩
        have nwR : wl ≠ R := fun z => by rw [z, r5.at_] at nwl; cases nwl
        have nwN : wl ≠ N := fun z => by rw [z, x5.en] at nwl; cases nwl
        have nwd : wl ≠ d := fun z => by rw [z, x5.ed] at nwl; cases nwl
        generalize hX : upd H5 wl _ = H6; obtain ⟨sH6, ewl⟩ := nw nwl hX; clear hX
        have x6 := x5.keep sH6
        have r6 := r5.keep sH6
        obtain ⟨kc, hkc⟩ : ∃ a, (Bq.GG s0 nx rs.length)[rs.length]? = some a := ⟨_, List.getElem?_eq_getElem c0⟩
        have hkcU := hU _ kc (List.mem_of_getElem? hkc)
        refine ⟨fa, FF, le, ps, fr, ws, sp, kl, rfl, x6.same _ _ hf, hkl, hN, ?_⟩
        refine ⟨_, rfl, _, rfl, R, _, rfl, .inl (.of r6.at_), N, _, _, VN kc, rfl, rfl, .of x6.en, by rw [List.length_map]; exact atN hkc, x6.same _ _ hf, x6.same _ _ hcd, hC.ext x6.same, ?_⟩
        refine hS H6 kc _ x6.same hkcU fun H7 l s7 el0 => ?_
        have el := s7 _ _ (x6.same _ _ el0)
        have x7 := x6.keep s7
        have r7 := r6.keep s7
        have ew7 := s7 _ _ ewl
        have nwl0 : H wl = none := x5.same.free nwl
        have nrw : ∀ (j : Nat) (y : Addr), rs[j]? = some y → y ≠ wl := fun j y e z => by
          obtain ⟨_, _, _, _, _, h⟩ := r5.get j y e
          rw [z, nwl] at h
          cases h
        have nlN : l ≠ N := fun z => by rw [z, nN0] at el0; cases el0
        have nld : l ≠ d := fun z => by rw [z, nd] at el0; cases el0
        have nlw : l ≠ wl := fun z => by rw [z, nwl0] at el0; cases el0
        refine ⟨l, rfl, ⟨_, .of el⟩, for_list (K := K) (a := l) (xs := (nx kc).map VN) (fun i σ H' => ∃ (v7 : Option V) (ns : List Nat), σ = [some (.ref st), some (.ref fa), some (.ref d), some (.ref N), v4, some (.ref R), some (.ref wl), v7] ∧ ns = Bq.add (Bq.GG s0 nx rs.length) ((nx kc).take i) ∧ Xs H d N ns H' ∧ Rws nx ns R N rs H' ∧ (∀ t ∈ (nx kc).take i, t ∈ ns) ∧ H' wl = some (.lst ((((nx kc).take i).map ns.idxOf).map VN)) ∧ H' l = some (.lst ((nx kc).map VN)))
          ⟨_, _, rfl, rfl, x7, r7, by simp, ew7, el⟩ (fun i σ H' _ ⟨_, _, _, _, _, _, _, _, z⟩ => .of z) ?_ ?_⟩
        · clear x7 r7 ew7 el x6 r6 x5 r5 s7 sH6 ewl
          rintro i v σ H8 hi ⟨v7, ns, rfl, hns, x, r, htk, ew, el⟩
          obtain ⟨k, hk, rfl⟩ := mapg hi
          have hnU : ns.length ≤ U := by
            have h1 : ns.Nodup := by rw [hns]; exact Bq.nodup_add (Bq.gg_nd s0 nx _)
            have := List.Nodup.length_le_of_subset h1 (l₂ := List.range U) fun x hx => List.mem_range.mpr (by
              rw [hns] at hx
              rcases Bq.mem_add.mp hx with z | z
              · exact hU _ x z
              · exact hUU kc hkcU x (List.mem_of_mem_take z))
            rwa [List.length_range] at this
          have htk1 : (nx kc).take (i + 1) = (nx kc).take i ++ [k] := by rw [List.take_add_one, hk]; rfl
          have hns1 : Bq.add (Bq.GG s0 nx rs.length) ((nx kc).take (i + 1)) = Bq.ad ns k := by rw [htk1, Bq.add_app, ← hns]; rfl
          have hil := lt_of_get hk
          refine ⟨fun σ H' => ∃ (ns : List Nat), σ = [some (.ref st), some (.ref fa), some (.ref d), some (.ref N), v4, some (.ref R), some (.ref wl), some (VN k)] ∧ ns = Bq.add (Bq.GG s0 nx rs.length) ((nx kc).take (i + 1)) ∧ Xs H d N ns H' ∧ Rws nx ns R N rs H' ∧ (∀ t ∈ (nx kc).take i, t ∈ ns) ∧ k ∈ ns ∧ H' wl = some (.lst ((((nx kc).take i).map ns.idxOf).map VN)) ∧ H' l = some (.lst ((nx kc).map VN)), ?_, ?_⟩
          · refine ⟨_, rfl, _, rfl, d, _, rfl, DGet.k (k := Sum.inl (k : Int)) x.ed, _, rfl, ?_⟩
            rw [entI_val]
            by_cases c : k ∈ ns
            · rw [if_pos c]
              exact iteB_f rfl ⟨ns, rfl, by rw [hns1, ad_old c], x, r, htk, c, ew, el⟩
            · rw [if_neg c]
              refine iteB_t rfl ⟨_, rfl, N, _, rfl, .inl (.of x.en), _, rfl, _, rfl, d, _, rfl, .k (k := Sum.inl (k : Int)) x.ed (by rw [entI_len]; exact Nat.lt_of_le_of_lt (show ns.length ≤ 100 by omega) (by decide)), ?_⟩
              rw [List.length_map]
              have xp := xs_put (k := k) x nd nN0 ndN c
              have rp := r.grow (k := k) (o := .dK (putK (entI ns 0) (Sum.inl (k : Int)) (VN ns.length))) (l2 := ns.map VN ++ [VN k]) x.ed nRN
              refine ⟨_, rfl, .inl ⟨rfl, _, .of (by rw [upd_ne ndN]; exact x.en)⟩, _, rfl, N, _, _, rfl, rfl, by rw [upd_ne ndN]; exact x.en, by rw [List.length_map]; exact Nat.lt_of_le_of_lt (show ns.length ≤ 100 by omega) (by decide), ?_⟩
              refine ⟨_, rfl, by rw [hns1, ad_new c], xp, rp, fun t ht => List.mem_append_left _ (htk t ht), by simp, ?_, ?_⟩
              · rw [upd_ne nwN, upd_ne nwd, map_idx htk]; exact ew
              · rw [upd_ne nlN, upd_ne nld]; exact el
          clear x r htk ew el hns hnU hns1
          rintro σ H9 ⟨ns, rfl, hns, x, r, htk, hkn, ew, el⟩
          refine ⟨_, rfl, .inl ⟨rfl, _, .of ew⟩, _, rfl, _, rfl, d, VN (ns.idxOf k), rfl, ?_, wl, _, _, rfl, rfl, ew, ?_, ?_⟩
          · have := DGet.k (k := Sum.inl (k : Int)) x.ed
            rw [entI_val, if_pos hkn] at this
            exact this
          · rw [List.length_map, List.length_map, List.length_take]
            exact Nat.lt_of_le_of_lt (show min i (nx kc).length ≤ 100 by have := hnl2 kc; omega) (by decide)
          refine ⟨_, ns, rfl, hns, ⟨fun q o e => ?_, by rw [upd_ne nwd.symm]; exact x.ed, by rw [upd_ne nwN.symm]; exact x.en⟩, ⟨by rw [upd_ne nwR.symm]; exact r.at_, fun j y e => ?_⟩, ?_, ?_, by rw [upd_ne nlw]; exact el⟩
          · rw [upd_ne (ne_of_none e nwl0)]; exact x.same _ _ e
          · obtain ⟨n1, n2, k', h1, h2, h3⟩ := r.get j y e
            exact ⟨n1, n2, k', h1, h2, by rw [upd_ne (nrw j y e)]; exact h3⟩
          · intro t ht
            rw [htk1] at ht
            rcases List.mem_append.mp ht with z | z
            · exact htk t z
            · rw [List.mem_singleton.mp z]; exact hkn
          · rw [upd_same, htk1, List.map_append, List.map_append]; rfl
        · clear x7 r7 ew7 el x6 r6 x5 r5 s7 sH6 ewl
          rintro σ H8 ⟨v7, ns, rfl, hns, x, r, htk, ew, el⟩
          rw [List.length_map, List.take_length] at hns htk ew
          have eG : Bq.GG s0 nx (rs.length + 1) = ns := by rw [Bq.gg_some hkc, hns]
          have hkn : ns[rs.length]? = some kc := by
            obtain ⟨t, ht⟩ := Bq.gg_pre s0 nx rs.length
            rw [← eG, ht, List.getElem?_append_left c0]
            exact hkc
          refine ⟨_, rfl, .inl ⟨rfl, _, .of r.at_⟩, _, rfl, R, _, _, rfl, rfl, r.at_, by rw [List.length_map]; exact Nat.lt_of_le_of_lt (show rs.length ≤ 100 by omega) (by decide), ?_⟩
          have el1 : (rs ++ [wl]).length = rs.length + 1 := by rw [List.length_append]; rfl
          refine ⟨U - (rs ++ [wl]).length, ?_, v4, _, _, rs ++ [wl], rfl, rfl, ?_⟩
          · rw [el1]; omega
          rw [el1, eG]
          refine ⟨⟨fun q o e => ?_, by rw [upd_ne nRd.symm]; exact x.ed, by rw [upd_ne nRN.symm]; exact x.en⟩, ⟨?_, fun j y e => ?_⟩, ?_⟩
          · rw [upd_ne (ne_of_none e nR0)]; exact x.same _ _ e
          · rw [upd_same, List.map_append]; rfl
          · rcases snocg e with ⟨_, z⟩ | ⟨z1, z2⟩
            · obtain ⟨n1, n2, k', h1, h2, h3⟩ := r.get j y z
              exact ⟨n1, n2, k', h1, h2, by rw [upd_ne n1]; exact h3⟩
            · rw [z1, z2]
              exact ⟨nwR, nwN, kc, hkn, htk, by rw [upd_ne nwR]; exact ew⟩
          · obtain ⟨t, ht⟩ := Bq.gg_pre s0 nx rs.length
            have := lt_of_get hkn
            omega
      · rw [decide_eq_false (by omega)]
        exact iteB_f rfl ⟨v4, v6, v7, rs, rfl, x5, r5, by omega⟩
    · rintro σ H5 ⟨v4, v6, v7, rs, rfl, x5, r5, hle⟩
      refine ⟨_, rfl, _, rfl, by show 2 ≤ sizeLine; decide, fun p np => ?_⟩
      generalize hX : upd H5 p _ = H6; obtain ⟨sH6, ep⟩ := nw np hX; clear hX
      have x6 := x5.keep sH6
      have r6 := r5.keep sH6
      refine q H6 p N R _ x6.same ep x6.en ⟨rs, r6.at_, by rw [List.length_map]; exact hle.symm, fun i a e => ?_⟩ (Bq.gg_ord (Nat.le_of_eq hle))
      obtain ⟨_, _, k, h1, _, h3⟩ := r6.get i a e
      exact ⟨_, by rw [List.getElem?_map, h1]; rfl, h3⟩
/-! numbered, the values are numbers -/
def entZ : List Int → Nat → List (Key × V)
  | [], _ => []
  | x :: l, i => (.inl x, VN i) :: entZ l (i + 1)
theorem entZ_len : ∀ {l : List Int} {i : Nat}, (entZ l i).length = l.length
  | [], _ => rfl
  | x :: l, i => by show (entZ l (i + 1)).length + 1 = l.length + 1; rw [entZ_len]
theorem entZ_snoc {x : Int} : ∀ {l : List Int} {i : Nat}, entZ (l ++ [x]) i = entZ l i ++ [(.inl x, VN (i + l.length))]
  | [], _ => rfl
  | y :: l, i => by
    show (Sum.inl y, VN i) :: entZ (l ++ [x]) (i + 1) = (Sum.inl y, VN i) :: (entZ l (i + 1) ++ _)
    rw [entZ_snoc, List.length_cons, show i + 1 + l.length = i + (l.length + 1) by omega]
theorem entZ_val (z : Int) : ∀ {l : List Int} {i : Nat}, valV (entZ l i) (Sum.inl z : Key) = if z ∈ l then some (VN (l.idxOf z + i)) else none
  | [], _ => by rw [if_neg List.not_mem_nil]; rfl
  | x :: l, i => by
    by_cases e : x = z
    · subst e
      rw [show entZ (x :: l) i = (Sum.inl x, VN i) :: entZ l (i + 1) from rfl, valV_pos rfl, if_pos List.mem_cons_self, List.idxOf_cons_self, Nat.zero_add]
    · rw [show entZ (x :: l) i = (Sum.inl x, VN i) :: entZ l (i + 1) from rfl, valV_neg (fun h => e (Sum.inl.inj h)), entZ_val z]
      have hiff : z ∈ x :: l ↔ z ∈ l := by simp [show z ≠ x from fun h => e h.symm]
      simp only [hiff]
      split
      · rw [List.idxOf_cons, show (x == z) = false by simpa using e]
        show some (VN (l.idxOf z + (i + 1))) = some (VN (l.idxOf z + 1 + i))
        rw [show l.idxOf z + (i + 1) = l.idxOf z + 1 + i by omega]
      · rfl
theorem entZ_put {l : List Int} {x : Int} (h : x ∉ l) : putK (entZ l 0) (Sum.inl x : Key) (VN l.length) = entZ (l ++ [x]) 0 := by
  rw [putK_new _ (by rw [entZ_val, if_neg h]), entZ_snoc, Nat.zero_add]
theorem num_len_le {α : Type} [DecidableEq α] (xs : List α) : (Bq.add [] xs).length ≤ xs.length := by
  have := List.Nodup.length_le_of_subset (Bq.nodup_add (l := xs) List.nodup_nil) (l₂ := xs) fun x hx => (Bq.mem_add.mp hx).elim (fun z => by cases z) id
  exact this
/-- the numbers of a part, when one more is known -/
theorem idx_ad {α : Type} [DecidableEq α] {D l : List α} {x : α} (h : ∀ y ∈ l, y ∈ D) : l.map (fun y => VN ((Bq.ad D x).idxOf y)) = l.map (fun y => VN (D.idxOf y)) := by
  refine List.map_congr_left fun y hy => ?_
  obtain ⟨t, ht⟩ := Bq.ad_pre D x
  rw [ht, Bq.idx_pre (h y hy)]
def spNumI : Sp := fun vs H Q _ => ∃ (a : Addr) (xs : List Int), vs = [.ref a] ∧ H a = some (.lst (xs.map V.int)) ∧ xs.length ≤ 100 ∧ ∀ (H' : Hp) (p : Addr), Same H H' → H p = none → H' p = some (.lst ((Bq.num xs).map VN)) → Q (.ref p) H'
theorem cal_numI (T : Txt K mg cA0 PA0) : C8.Cal P w K mg base 1 "numbered" spNumI [] := by
  obtain ⟨f, fd, F, hm, hb⟩ := T.h_numbered
  refine ⟨f, fd, _, [], F.ok sc_numbered (fun vs H Q E h => ?_) (fun cdv A outer s H vs Q E hr h => ?_), hm, F.kp, hb, .nil⟩
  · obtain ⟨a, xs, rfl, _⟩ := h
    rfl
  · obtain ⟨a, xs, rfl, ea, hl, q⟩ := h
    refine ⟨_, (pss_cons
      (ps_set (i := 1) sc_numbered.nd rfl (Or.inl rfl) pe_dnewK)
      (pss_cons
      (ps_set (i := 2) sc_numbered.nd rfl (Or.inl rfl) (pe_lst pa_nil))
      (pss_cons
      (ps_for PassesOwn.never rfl (pi_list (pv 0)) (pg_name (i := 3) sc_numbered.nd rfl (.inl rfl)) (C8.pss_cut
      (ps_if (pt_cmp (pc_dnotin (hu_of hr) (pv 3) (pv 1))) (pss_one
      (ps_dput (hu_of hr) (pv 1) (pv 3) (pe_callB call_lenD (by rfl) T.z_len PySem.boot_len (pa_cons (pv 1) pa_nil)) rfl)) pss_nil)
      (pss_one
      (ps_expr (pe_bm PySem.F.plainAttrs_list PySem.F.slot_list_append PySem.F.type_list_append mt_append (pv 2) (pa_cons (pe_dget (hu_of hr) (pv 1) (pv 3) (fun _ _ => rfl)) pa_nil))))))
      (pss_one
      (ps_ret (pv 2)))))), ?_⟩
    refine fun d nd => ?_
    generalize hX : upd H d _ = H1; obtain ⟨sH1, ed⟩ := nw nd hX; clear hX
    refine ⟨Nat.zero_le _, fun N nN => ?_⟩
    have nN0 := sH1.free nN
    have ndN : N ≠ d := fun z => by rw [z, ed] at nN; cases nN
    generalize hX : upd H1 N _ = H2; obtain ⟨sH2, eN⟩ := nw nN hX; clear hX
    have s02 := sH1.trans sH2
    have ed2 := sH2 _ _ ed
    refine ⟨_, rfl, a, rfl, ⟨_, .of (s02 _ _ ea)⟩, for_list (K := K) (a := a) (xs := xs.map V.int) (fun i σ H' => ∃ (v3 : Option V) (D : List Int), σ = [some (.ref a), some (.ref d), some (.ref N), v3] ∧ D = Bq.add [] (xs.take i) ∧ Same H H' ∧ H' d = some (.dK (entZ D 0)) ∧ H' N = some (.lst ((xs.take i).map fun y => VN (D.idxOf y))))
      ⟨none, [], rfl, rfl, s02, ed2, eN⟩ (fun i σ H' _ ⟨_, _, _, _, x, _⟩ => .of (x _ _ ea)) ?_ ?_⟩
    · rintro i v σ H3 hi ⟨v3, D, rfl, hD, s3, ed3, eN3⟩
      obtain ⟨x, hx, rfl⟩ := mapg hi
      have hil := lt_of_get hx
      have hD1 : Bq.add [] (xs.take (i + 1)) = Bq.ad D x := by rw [Bq.take_add1 hx, ← hD]
      have hDm : ∀ y ∈ xs.take i, y ∈ D := fun y hy => by rw [hD]; exact Bq.mem_add.mpr (.inr hy)
      have hDl : D.length ≤ 100 := by
        have := num_len_le (xs.take i)
        rw [← hD, List.length_take] at this
        omega
      have htk : xs.take (i + 1) = xs.take i ++ [x] := by rw [List.take_add_one, hx]; rfl
      refine ⟨fun σ H' => σ = [some (.ref a), some (.ref d), some (.ref N), some (.int x)] ∧ Same H H' ∧ H' d = some (.dK (entZ (Bq.ad D x) 0)) ∧ H' N = some (.lst ((xs.take i).map fun y => VN (D.idxOf y))), ?_, ?_⟩
      · refine ⟨_, rfl, _, rfl, d, _, rfl, DGet.k (k := Sum.inl x) ed3, _, rfl, ?_⟩
        rw [entZ_val]
        by_cases c : x ∈ D
        · rw [if_pos c]
          exact iteB_f rfl ⟨rfl, s3, by rw [show Bq.ad D x = D from if_pos c]; exact ed3, eN3⟩
        · rw [if_neg c]
          refine iteB_t rfl ⟨_, rfl, d, _, rfl, ed3, _, rfl, _, rfl, d, _, rfl, .k (k := Sum.inl x) ed3 (by rw [entZ_len]; exact Nat.lt_of_le_of_lt hDl (by decide)), ?_⟩
          rw [entZ_len, entZ_put c]
          refine ⟨rfl, fun q o e => by rw [upd_ne (ne_of_none e nd)]; exact s3 _ _ e, by rw [upd_same, show Bq.ad D x = D ++ [x] from if_neg c], by rw [upd_ne ndN]; exact eN3⟩
      rintro σ H4 ⟨rfl, s4, ed4, eN4⟩
      have hxm : x ∈ Bq.ad D x := Bq.mem_ad.mpr (.inr rfl)
      refine ⟨_, rfl, .inl ⟨rfl, _, .of eN4⟩, _, rfl, _, rfl, d, VN ((Bq.ad D x).idxOf x), rfl, ?_, N, _, _, rfl, rfl, eN4, ?_, ?_⟩
      · have := DGet.k (k := Sum.inl x) ed4
        rw [entZ_val, if_pos hxm] at this
        exact this
      · rw [List.length_map, List.length_take]
        exact Nat.lt_of_le_of_lt (show min i xs.length ≤ 100 by omega) (by decide)
      refine ⟨_, Bq.ad D x, rfl, hD1.symm, fun q o e => by rw [upd_ne (ne_of_none e nN0)]; exact s4 _ _ e, by rw [upd_ne ndN.symm]; exact ed4, ?_⟩
      rw [upd_same, htk, List.map_append, idx_ad hDm]
      rfl
    · rintro σ H3 ⟨v3, D, rfl, hD, s3, ed3, eN3⟩
      rw [List.length_map, List.take_length] at hD eN3
      refine ⟨_, rfl, q H3 N s3 nN0 ?_⟩
      rw [eN3, hD]
      unfold Bq.num
      rw [List.map_map]
      rfl
/-! keys that are tuples, told by ky -/
section
variable {α : Type}
/-- how a node is a key -/
structure Ky (ky : α → NestedKey) : Prop where
  inj : ∀ a b, ky a = ky b → a = b
  dep : ∀ a, (ky a).depth ≤ 8
/-- the addresses of the nodes -/
def KA (K : PySem.W.Frag) (ky : α → NestedKey) (H : Hp) (as : List Addr) (ks : List α) : Prop := as.length = ks.length ∧ ∀ (i : Nat) (a : Addr), as[i]? = some a → ∃ k, ks[i]? = some k ∧ Dn2.NkV K H (ky k) (.ref a)
theorem KA.same {ky : α → NestedKey} {H H' : Hp} {as : List Addr} {ks : List α} (s : ∀ b xs, H b = some (.tup xs) → H' b = some (.tup xs)) (h : KA K ky H as ks) : KA K ky H' as ks := ⟨h.1, fun i a e => by
  obtain ⟨k, h1, h2⟩ := h.2 i a e
  exact ⟨k, h1, Dn2.NkV.same s _ _ h2⟩⟩
theorem KA.snoc {ky : α → NestedKey} {H : Hp} {as : List Addr} {ks : List α} {a : Addr} {k : α} (h : KA K ky H as ks) (e : Dn2.NkV K H (ky k) (.ref a)) : KA K ky H (as ++ [a]) (ks ++ [k]) := by
  refine ⟨by rw [List.length_append, List.length_append, h.1]; rfl, fun i x hx => ?_⟩
  rcases snocg hx with ⟨_, y⟩ | ⟨y1, y2⟩
  · obtain ⟨k', h1, h2⟩ := h.2 i x y
    exact ⟨k', by rw [List.getElem?_append_left (lt_of_get h1)]; exact h1, h2⟩
  · subst y2
    exact ⟨k, by rw [List.getElem?_append_right (by rw [y1, h.1]; exact Nat.le_refl _), y1, h.1, Nat.sub_self]; rfl, e⟩
/-- the entries node ↦ number -/
def entN (ky : α → NestedKey) : List Addr → List α → Nat → List Dn2.Ent
  | a :: as, u :: us, i => (ky u, a, VN i) :: entN ky as us (i + 1)
  | _, _, _ => []
theorem entN_len {ky : α → NestedKey} : ∀ {as : List Addr} {us : List α} {i : Nat}, as.length = us.length → (entN ky as us i).length = us.length
  | [], [], _, _ => rfl
  | a :: as, u :: us, i, h => by
    show (entN ky as us (i + 1)).length + 1 = us.length + 1
    rw [entN_len (Nat.succ.inj h)]
theorem entN_snoc {ky : α → NestedKey} {a : Addr} {u : α} : ∀ {as : List Addr} {us : List α} {i : Nat}, as.length = us.length → entN ky (as ++ [a]) (us ++ [u]) i = entN ky as us i ++ [(ky u, a, VN (i + us.length))]
  | [], [], _, _ => rfl
  | b :: as, v :: us, i, h => by
    show (ky v, b, VN i) :: entN ky (as ++ [a]) (us ++ [u]) (i + 1) = (ky v, b, VN i) :: (entN ky as us (i + 1) ++ _)
    rw [entN_snoc (Nat.succ.inj h), List.length_cons, show i + 1 + us.length = i + (us.length + 1) by omega]
theorem entN_val [BEq α] [LawfulBEq α] {ky : α → NestedKey} (kk : Ky ky) (z : α) : ∀ {as : List Addr} {us : List α} {i : Nat}, as.length = us.length → Dn2.valN (entN ky as us i) (ky z) = if z ∈ us then some (VN (us.idxOf z + i)) else none
  | [], [], _, _ => by rw [if_neg List.not_mem_nil]; rfl
  | a :: as, u :: us, i, h => by
    have ih := entN_val kk z (as := as) (us := us) (i := i + 1) (Nat.succ.inj h)
    unfold Dn2.valN at ih ⊢
    rw [show entN ky (a :: as) (u :: us) i = (ky u, a, VN i) :: entN ky as us (i + 1) from rfl, List.find?_cons]
    by_cases e : u = z
    · subst e
      rw [decide_eq_true (show ky u = ky u from rfl), if_pos List.mem_cons_self, List.idxOf_cons_self, Nat.zero_add]
      rfl
    · rw [decide_eq_false (by intro h; exact e (kk.inj _ _ h)), ih]
      have hiff : z ∈ u :: us ↔ z ∈ us := by simp [show z ≠ u from fun h => e h.symm]
      simp only [hiff]
      split
      · rw [List.idxOf_cons, show (u == z) = false by simpa using e]
        show some (VN (us.idxOf z + (i + 1))) = some (VN (us.idxOf z + 1 + i))
        rw [show us.idxOf z + (i + 1) = us.idxOf z + 1 + i by omega]
      · rfl
theorem entN_put [BEq α] [LawfulBEq α] {ky : α → NestedKey} (kk : Ky ky) {as : List Addr} {us : List α} {a : Addr} {u : α} (h : as.length = us.length) (hu : u ∉ us) : Dn2.putN (entN ky as us 0) (ky u) a (VN us.length) = entN ky (as ++ [a]) (us ++ [u]) 0 := by
  rw [Dn2.putN_new (by rw [entN_val kk u h, if_neg hu]), entN_snoc h, Nat.zero_add]
theorem dn_ext {P : Program} {w : World} {K : PySem.W.Frag} {H : Hp} {d : Addr} {kvs : List Dn2.Ent} (h : Dn2.DN P w K H d kvs) : ∃ φ, H d = some (.ext φ) := by
  obtain ⟨⟨xs, e, _⟩, _⟩ := h
  exact ⟨_, e⟩
theorem dn_get [BEq α] [LawfulBEq α] {P : Program} {w : World} {K : PySem.W.Frag} {ky : α → NestedKey} {H : Hp} {d a : Addr} {na : List Addr} {ns : List α} {k : α} (kk : Ky ky) (h : Dn2.DN P w K H d (entN ky na ns 0)) (hl : na.length = ns.length) (e : Dn2.NkV K H (ky k) (.ref a)) : Dn2.DGN P w K H d (.ref a) (if k ∈ ns then some (VN (ns.idxOf k)) else none) :=
  ⟨_, ky k, a, h, rfl, e, kk.dep k, by rw [entN_val kk k hl, Nat.add_zero]⟩
end
def kyI (u : List Int) : NestedKey := .tup (u.map .num)
theorem nka_ints {H : Hp} : ∀ {u : List Int} {vs : List V}, Dn2.NkA K H (u.map .num) vs ↔ vs = u.map V.int
  | [], vs => by rw [List.map_nil, Dn2.NkA]; rfl
  | i :: u, vs => by
    rw [List.map_cons, Dn2.NkA]
    constructor
    · rintro ⟨v, vs', rfl, h1, h2⟩
      rw [Dn2.NkV] at h1
      rw [h1, nka_ints.mp h2]; rfl
    · intro h
      exact ⟨V.int i, u.map V.int, h, by rw [Dn2.NkV], nka_ints.mpr rfl⟩
theorem nk_iff {H : Hp} {u : List Int} {a : Addr} : Dn2.NkV K H (kyI u) (.ref a) ↔ Dn2.TupK K H a (u.map V.int) := by
  unfold kyI
  rw [Dn2.NkV]
  constructor
  · rintro ⟨a', vs, e, h1, h2⟩
    cases e
    rwa [nka_ints.mp h2] at h1
  · intro h
    exact ⟨a, _, rfl, h, nka_ints.mpr rfl⟩
theorem kyI_ky : Ky kyI := by
  refine ⟨fun a b h => ?_, fun a => ?_⟩
  · have := NestedKey.tup.inj h
    exact (List.map_inj_right (fun x y e => NestedKey.num.inj e)).mp this
  · unfold kyI
    rw [NestedKey.depth]
    have : ∀ u : List Int, NestedKey.depthAll (u.map .num) = 0 := fun u => by
      induction u with
      | nil => rw [List.map_nil, NestedKey.depthAll]
      | cons i u ih => rw [List.map_cons, NestedKey.depthAll, ih, NestedKey.depth]; rfl
    rw [this]
    decide
/-! numbered, the values are tuples -/
def spNumN {α : Type} [DecidableEq α] (K : PySem.W.Frag) (ky : α → NestedKey) : Sp := fun vs H Q _ => ∃ (a : Addr) (as : List Addr) (xs : List α), vs = [.ref a] ∧ H a = some (.lst (as.map V.ref)) ∧ KA K ky H as xs ∧ xs.length ≤ 100 ∧ ∀ (H' : Hp) (p : Addr), Same H H' → H p = none → H' p = some (.lst ((Bq.num xs).map VN)) → Q (.ref p) H'
theorem cal_numN {α : Type} [DecidableEq α] {ky : α → NestedKey} (kk : Ky ky) (T : Txt K mg cA0 PA0) : C8.Cal P w K mg base 1 "numbered" (spNumN K ky) [] := by
  obtain ⟨f, fd, F, hm, hb⟩ := T.h_numbered
  refine ⟨f, fd, _, [], F.ok sc_numbered (fun vs H Q E h => ?_) (fun cdv A outer s H vs Q E hr h => ?_), hm, F.kp, hb, .nil⟩
  · obtain ⟨a, as, xs, rfl, _⟩ := h
    rfl
  · obtain ⟨a, as, xs, rfl, ea, hA, hl, q⟩ := h
    refine ⟨_, (pss_cons
      (ps_set (i := 1) sc_numbered.nd rfl (Or.inl rfl) (Dn2.pe_dnewN (P := P) (w := w) rfl rfl))
      (pss_cons
      (ps_set (i := 2) sc_numbered.nd rfl (Or.inl rfl) (pe_lst pa_nil))
      (pss_cons
      (ps_for PassesOwn.never rfl (pi_list (pv 0)) (pg_name (i := 3) sc_numbered.nd rfl (.inl rfl)) (C8.pss_cut
      (ps_if (pt_cmp (Dn2.pc_dnotinN (P := P) (w := w) (K := K) rfl rfl rfl (Dn2.units65 hr) (pv 3) (pv 1))) (pss_one
      (Dn2.ps_dputN (P := P) (w := w) (K := K) rfl rfl rfl (Dn2.units65 hr) (pv 1) (pv 3) (pe_callB (Dn2.cr_lenN (P := P) (w := w) (K := K) rfl rfl rfl) (by rfl) T.z_len PySem.boot_len (pa_cons (pv 1) pa_nil)) rfl)) pss_nil)
      (pss_one
      (ps_expr (pe_bm PySem.F.plainAttrs_list PySem.F.slot_list_append PySem.F.type_list_append mt_append (pv 2) (pa_cons (Dn2.pe_dgetN (P := P) (w := w) (K := K) rfl rfl rfl (Dn2.units65 hr) (pv 1) (pv 3) (fun _ _ => rfl)) pa_nil))))))
      (pss_one
      (ps_ret (pv 2)))))), ?_⟩
    refine fun d nd => ?_
    have ed : Dn2.DN P w K (upd H d (Dn2.DNO P w d [])) d [] := Dn2.dn_nil d H
    have sH1 : Same H (upd H d (Dn2.DNO P w d [])) := same_new nd
    generalize upd H d (Dn2.DNO P w d []) = H1 at ed sH1 ⊢
    refine ⟨Nat.zero_le _, fun N nN => ?_⟩
    have nN0 := sH1.free nN
    generalize hX : upd H1 N _ = H2; obtain ⟨sH2, eN⟩ := nw nN hX; clear hX
    have s02 := sH1.trans sH2
    refine ⟨_, rfl, a, rfl, ⟨_, .of (s02 _ _ ea)⟩, for_list (K := K) (a := a) (xs := as.map V.ref) (fun i σ H' => ∃ (v3 : Option V) (D : List α) (da : List Addr), σ = [some (.ref a), some (.ref d), some (.ref N), v3] ∧ D = Bq.add [] (xs.take i) ∧ Same H H' ∧ Dn2.DN P w K H' d (entN ky da D 0) ∧ da.length = D.length ∧ H' N = some (.lst ((xs.take i).map fun y => VN (D.idxOf y))))
      ⟨none, [], [], rfl, rfl, s02, ed.same sH2, rfl, eN⟩ (fun i σ H' _ ⟨_, _, _, _, _, x, _⟩ => .of (x _ _ ea)) ?_ ?_⟩
    · rintro i v σ H3 hi ⟨v3, D, da, rfl, hD, s3, ed3, hda, eN3⟩
      obtain ⟨b, hb1, rfl⟩ := refsg hi
      obtain ⟨x, hx, eb⟩ := hA.2 i b hb1
      have eb3 := Dn2.NkV.same (fun b xs e => s3 _ _ e) _ _ eb
      have hil := lt_of_get hx
      have hD1 : Bq.add [] (xs.take (i + 1)) = Bq.ad D x := by rw [Bq.take_add1 hx, ← hD]
      have hDm : ∀ y ∈ xs.take i, y ∈ D := fun y hy => by rw [hD]; exact Bq.mem_add.mpr (.inr hy)
      have hDl : D.length ≤ 100 := by
        have := num_len_le (xs.take i)
        rw [← hD, List.length_take] at this
        omega
      have htk : xs.take (i + 1) = xs.take i ++ [x] := by rw [List.take_add_one, hx]; rfl
      have ndN : N ≠ d := fun z => by obtain ⟨φ, h⟩ := dn_ext ed3; rw [z, h] at eN3; cases eN3
      refine ⟨fun σ H' => ∃ da : List Addr, σ = [some (.ref a), some (.ref d), some (.ref N), some (.ref b)] ∧ Same H H' ∧ Dn2.DN P w K H' d (entN ky da (Bq.ad D x) 0) ∧ da.length = (Bq.ad D x).length ∧ H' N = some (.lst ((xs.take i).map fun y => VN (D.idxOf y))), ?_, ?_⟩
      · refine ⟨_, rfl, _, rfl, d, _, rfl, dn_get kk ed3 hda eb3, _, rfl, ?_⟩
        by_cases c : x ∈ D
        · rw [if_pos c]
          have e : Bq.ad D x = D := if_pos c
          exact iteB_f rfl ⟨da, rfl, s3, by rw [e]; exact ed3, by rw [e]; exact hda, eN3⟩
        · rw [if_neg c]
          have e : Bq.ad D x = D ++ [x] := if_neg c
          refine iteB_t rfl ⟨_, rfl, d, _, rfl, ed3, _, rfl, _, rfl, d, rfl, _, ky x, b, ed3, rfl, eb3, kk.dep x, by rw [entN_len hda]; exact Nat.lt_of_le_of_lt hDl (by decide), fun H3' c1 c2 D3 => ?_⟩
          rw [entN_len hda, entN_put kk hda c] at D3
          refine ⟨da ++ [b], rfl, fun q o e => by rw [c1 _ (ne_of_none e nd)]; exact s3 _ _ e, by rw [e]; exact D3, by rw [e, List.length_append, List.length_append, hda]; rfl, by rw [c1 N ndN]; exact eN3⟩
      clear ed3 hda
      rintro σ H4 ⟨da, rfl, s4, ed4, hda, eN4⟩
      have eb4 := Dn2.NkV.same (fun b xs e => s4 _ _ e) _ _ eb
      have hxm : x ∈ Bq.ad D x := Bq.mem_ad.mpr (.inr rfl)
      refine ⟨_, rfl, .inl ⟨rfl, _, .of eN4⟩, _, rfl, _, rfl, d, VN ((Bq.ad D x).idxOf x), rfl, ?_, N, _, _, rfl, rfl, eN4, ?_, ?_⟩
      · have := dn_get kk ed4 hda eb4
        rw [if_pos hxm] at this
        exact this
      · rw [List.length_map, List.length_take]
        exact Nat.lt_of_le_of_lt (show min i xs.length ≤ 100 by omega) (by decide)
      refine ⟨_, Bq.ad D x, da, rfl, hD1.symm, fun q o e => by rw [upd_ne (ne_of_none e nN0)]; exact s4 _ _ e, ed4.keep (fun o e => by rw [upd_ne ndN.symm]; exact e) (fun q xs e => by rw [upd_ne (fun z => by rw [z, eN4] at e; cases e)]; exact e), hda, ?_⟩
      rw [upd_same, htk, List.map_append, idx_ad hDm]
      rfl
    · rintro σ H3 ⟨v3, D, da, rfl, hD, s3, ed3, hda, eN3⟩
      rw [List.length_map, hA.1, List.take_length] at hD eN3
      refine ⟨_, rfl, q H3 N s3 nN0 ?_⟩
      rw [eN3, hD]
      unfold Bq.num
      rw [List.map_map]
      rfl
/-! alike_classes -/
open Bq Mo in
def kyP (p : Nat × List Nat) : NestedKey := .tup [.num (p.1 : Int), .tup (p.2.map fun c : Nat => .num (c : Int))]
theorem nka_nats {H : Hp} : ∀ {u : List Nat} {vs : List V}, Dn2.NkA K H (u.map fun c : Nat => .num (c : Int)) vs ↔ vs = u.map VN
  | [], vs => by rw [List.map_nil, Dn2.NkA]; rfl
  | i :: u, vs => by
    rw [List.map_cons, Dn2.NkA]
    constructor
    · rintro ⟨v, vs', rfl, h1, h2⟩
      rw [Dn2.NkV] at h1
      rw [h1, nka_nats.mp h2]; rfl
    · intro h
      exact ⟨VN i, u.map VN, h, by rw [Dn2.NkV], nka_nats.mpr rfl⟩
theorem nkp_of {H : Hp} {c : Nat} {cs : List Nat} {p t : Addr} (hp : H p = some (.tup [VN c, .ref t])) (ht : H t = some (.tup (cs.map VN))) : Dn2.NkV K H (kyP (c, cs)) (.ref p) := by
  unfold kyP
  rw [Dn2.NkV]
  refine ⟨p, _, rfl, .inl hp, ?_⟩
  rw [Dn2.NkA]
  refine ⟨_, _, rfl, by rw [Dn2.NkV], ?_⟩
  rw [Dn2.NkA]
  refine ⟨_, _, rfl, ?_, by rw [Dn2.NkA]⟩
  rw [Dn2.NkV]
  exact ⟨t, _, rfl, .inl ht, nka_nats.mpr rfl⟩
theorem kyP_ky : Ky kyP := by
  refine ⟨fun a b h => ?_, fun a => ?_⟩
  · have h1 := NestedKey.tup.inj h
    have h2 := List.cons.inj h1
    have e1 : a.1 = b.1 := Int.ofNat.inj (NestedKey.num.inj h2.1)
    have h3 := NestedKey.tup.inj (List.cons.inj h2.2).1
    have e2 : a.2 = b.2 := (List.map_inj_right (fun x y e => Int.ofNat.inj (NestedKey.num.inj e))).mp h3
    exact Prod.ext e1 e2
  · unfold kyP
    have : ∀ u : List Nat, NestedKey.depthAll (u.map fun c : Nat => .num (c : Int)) = 0 := fun u => by
      induction u with
      | nil => rw [List.map_nil, NestedKey.depthAll]
      | cons i u ih => rw [List.map_cons, NestedKey.depthAll, ih, NestedKey.depth]; rfl
    rw [NestedKey.depth, NestedKey.depthAll, NestedKey.depthAll, NestedKey.depthAll, NestedKey.depth, NestedKey.depth, this]
    decide
theorem num_max {α : Type} [DecidableEq α] {xs : List α} (hx : xs ≠ []) {m : Int} (hm : m ∈ (Bq.num xs).map fun c : Nat => (c : Int)) (h : ∀ y ∈ (Bq.num xs).map fun c : Nat => (c : Int), y ≤ m) : m + 1 = ((Bq.add [] xs).length : Int) := by
  obtain ⟨c, hc, rfl⟩ := List.mem_map.mp hm
  have hlt : c < (Bq.add [] xs).length := by
    unfold Bq.num at hc
    obtain ⟨x, hx, rfl⟩ := List.mem_map.mp hc
    exact Bq.num_lt hx
  obtain ⟨i, hi⟩ := Bq.num_all (xs := xs) (k := (Bq.add [] xs).length - 1) (by omega)
  have := h _ (List.mem_map.mpr ⟨_, List.mem_of_getElem? hi, rfl⟩)
  omega
abbrev aScope : Scope := { kind := .function, names := [(".0", .local), ("state", .local), ("row", .local), ("tuple", .globalImplicit), ("classes", .cell)], isGenerator := false, isCoroutine := false }
/-- how many classes after k rounds -/
noncomputable def cntC {κ : Type} (lab : Nat → κ) (mv : Nat → Nat → Nat) (l n k : Nat) : Nat := (Mo.Ls lab mv l n k).length
theorem cnt_max {κ : Type} [DecidableEq κ] {lab : Nat → κ} {mv : Nat → Nat → Nat} {l n : Nat} (hn : 0 < n) (hc : ∀ i a, i < n → a < l → mv i a < n) (k : Nat) {m : Int} (hm : m ∈ (Bq.cl lab mv l n k).map fun c : Nat => (c : Int)) (h : ∀ y ∈ (Bq.cl lab mv l n k).map fun c : Nat => (c : Int), y ≤ m) : m + 1 = (cntC lab mv l n k : Int) := by
  have ne : ∀ {β : Type} (g : Nat → β), (List.range n).map g ≠ [] := fun g z => by
    have := congrArg List.length z
    rw [List.length_map, List.length_range] at this
    exact absurd this (by show ¬ n = 0; omega)
  unfold cntC
  cases k with
  | zero =>
    have e := Bq.cl_count hc 0 lab rfl
    rw [← e]
    exact num_max (ne _) hm h
  | succ k =>
    have e := Bq.cl_count hc (k + 1) (fun i => ((Bq.cl lab mv l n k).getD i 0, (List.range l).map fun a => (Bq.cl lab mv l n k).getD (mv i a) 0)) rfl
    rw [← e]
    exact num_max (ne _) hm h
theorem cnt_le {κ : Type} {lab : Nat → κ} {mv : Nat → Nat → Nat} {l n k : Nat} : cntC lab mv l n k ≤ n := by
  unfold cntC Mo.Ls
  have := List.length_filter_le (fun i => @decide (Mo.Lst (lab := lab) (mv := mv) (l := l) n k i) (Classical.propDecidable _)) (List.range n)
  rw [List.length_range] at this
  refine Nat.le_trans (Nat.le_of_eq ?_) this
  congr 1
theorem max_in {xs : List Nat} (h : xs ≠ []) : ∃ m : Int, m ∈ (xs.map fun c : Nat => (c : Int)) := by
  cases xs with
  | nil => exact absurd rfl h
  | cons x l => exact ⟨_, List.mem_cons_self⟩
def spAlk {κ : Type} [DecidableEq κ] (LabAt : Hp → Addr → List κ → Prop) : Sp := fun vs H Q _ => ∃ (la ra : Addr) (lab : Nat → κ) (mv : Nat → Nat → Nat) (l n : Nat), vs = [.ref la, .ref ra] ∧ LabAt H la ((List.range n).map lab) ∧ RwL H ra ((List.range n).map (Bq.rowM mv l)) ∧ 0 < n ∧ n ≤ 100 ∧ l ≤ 100 ∧ (∀ i a, i < n → a < l → mv i a < n) ∧
  ∀ (H' : Hp) (c : Addr) (k : Nat), Same H H' → H' c = some (.lst ((Bq.cl lab mv l n k).map VN)) → Mo.Stb lab mv l n k → Q (.ref c) H'
theorem cal_alk {κ : Type} [DecidableEq κ] {LabAt : Hp → Addr → List κ → Prop} {spN : Sp} (hNum : ∀ (H : Hp) (a : Addr) (xs : List κ) (Q : VK), LabAt H a xs → xs.length ≤ 100 → (∀ (H' : Hp) (p : Addr), Same H H' → H p = none → H' p = some (.lst ((Bq.num xs).map VN)) → Q (.ref p) H') → spN [.ref a] H Q C8.E0)
    (C_numbered : C8.Cal P w K mg base 1 "numbered" spN []) (T : Txt K mg cA0 PA0) : C8.Cal P w K mg base 2 "alike_classes" (spAlk LabAt) [] := by
  have C_numberedB : C8.Cal P w K mg base 1 "numbered" (spNumN K kyP) [] := cal_numN kyP_ky T
  obtain ⟨f, fd, F, hm, hb⟩ := T.h_alike_classes
  refine ⟨f, fd, _, [], F.ok sc_alike_classes (fun vs H Q E h => ?_) (fun cdv A outer s H vs Q E hr h => ?_), hm, F.kp, hb, .nil⟩
  · obtain ⟨la, ra, lab, mv, l, n, rfl, _⟩ := h
    rfl
  · obtain ⟨la, ra, lab, mv, l, n, rfl, hla, hra, hn, hn2, hl2, hc, q⟩ := h
    refine ⟨_, (pss_cons
      (ps_set (i := 2) sc_alike_classes.nd rfl (Or.inr rfl) (C8.pe_c C_numbered hr (by decide) (by rfl) (pa_cons (pv 0) pa_nil)))
      (pss_cons
      (ps_set (i := 3) sc_alike_classes.nd rfl (Or.inl rfl) (pe_un un_neg pe_int))
      (C8.pss_cut
      (ps_while PassesOwn.never (pt_cmpR op_gt (pe_callB (call_maxK (K := K) rfl rfl) (by rfl) T.z_max (by decide +kernel) (pa_cons (pv 2) pa_nil)) (pv 3) (nomark _)) (pss_cons
      (ps_set (i := 3) sc_alike_classes.nd rfl (Or.inl rfl) (pe_callB (call_maxK (K := K) rfl rfl) (by rfl) T.z_max (by decide +kernel) (pa_cons (pv 2) pa_nil)))
      (pss_one
      (ps_set (i := 2) sc_alike_classes.nd rfl (Or.inr rfl) (C8.pe_c C_numberedB hr (by decide) (by rfl) (pa_cons (pe_lc (own := [("state", 4), ("row", 5)]) (g := gTup K 2 (gCons (gName 4) (gCons (gName 5) gNil))) (tt := tYes) rfl sc_alike_classes.nd (pi_enum (by rfl) T.z_enumerate (pa_cons (pv 1) pa_nil)) (blkOk_by (N := N_alike_classes) (sc := defScope s_alike_classes) (by decide +kernel)) (fun _ _ _ _ _ => (pg_tup (by rfl) (pgs_cons (pg_name (i := 4) sc_alike_classes.nd rfl (Or.inl rfl)) (pgs_cons (pg_name (i := 5) sc_alike_classes.nd rfl (Or.inl rfl)) pgs_nil)))) (fun _ _ _ _ _ => pts_nil) (fun _ _ _ _ _ => (pe_tup (pa_cons (pe_ix (ix_listK (K := K) rfl) (pv 2) (pv 4) (fun _ _ => rfl)) (pa_cons (pe_callTy (call_tuple_ofK (K := K) rfl) (by rfl) T.z_tuple (by decide +kernel) (pa_cons (pe_lc (own := [("target", 6)]) (g := gName 6) (tt := tYes) rfl sc_alike_classes.nd (pi_listK (K := K) rfl (pv 5)) (blkOk_by (N := N_alike_classes) (sc := aScope) (by decide +kernel)) (fun _ _ _ _ _ => (pg_name (i := 6) sc_alike_classes.nd rfl (Or.inl rfl))) (fun _ _ _ _ _ => pts_nil) (fun _ _ _ _ _ => (pe_ix (ix_listK (K := K) rfl) (pv 2) (pv 6) (fun _ _ => rfl)))) pa_nil)) pa_nil))))) pa_nil))))))
      (pss_one
      (ps_ret (pv 2)))))), ?_⟩
    refine ⟨_, rfl, hNum _ _ _ _ hla (by rw [List.length_map, List.length_range]; exact hn2) fun H1 c0 s1 _ ec0 => ?_⟩
    refine ⟨_, rfl, ?_⟩
    have clne : ∀ k, Bq.cl lab mv l n k ≠ [] := fun k z => by
      have := Bq.cl_len lab mv l n k
      rw [z] at this
      exact absurd this (by show ¬ 0 = n; omega)
    have clg : ∀ k i, i < n → (Bq.cl lab mv l n k)[i]? = some ((Bq.cl lab mv l n k).getD i 0) := fun k i hi => by
      rw [List.getD_eq_getElem?_getD, List.getElem?_eq_getElem (by rw [Bq.cl_len]; exact hi)]
      rfl
    refine ⟨fun σ H' => ∃ (c : Addr) (k : Nat) (v3 v4 v5 v6 : Option V), σ = [some (.ref la), some (.ref ra), some (.ref c), v3, v4, v5, v6] ∧ Same H H' ∧ H' c = some (.lst ((Bq.cl lab mv l n k).map VN)) ∧ Mo.Stb lab mv l n k, ?_, ?_⟩
    · refine ⟨fun m σ H' => ∃ (c : Addr) (k b : Nat), m = n - b ∧ σ = [some (.ref la), some (.ref ra), some (.ref c), some (.int ((b : Int) - 1)), none, none, none] ∧ Same H H' ∧ H' c = some (.lst ((Bq.cl lab mv l n k).map VN)) ∧ ((k = 0 ∧ b = 0) ∨ ∃ k', k = k' + 1 ∧ b = cntC lab mv l n k'), ⟨_, c0, 0, 0, rfl, rfl, s1, ec0, .inl ⟨rfl, rfl⟩⟩, ?_⟩
      rintro m σ H2 ⟨c, k, b, rfl, rfl, s2, ec, hb⟩
      have emx : ((Bq.cl lab mv l n k).map VN) = ((Bq.cl lab mv l n k).map fun c : Nat => (c : Int)).map V.int := by rw [List.map_map]; rfl
      have hmx : SqL K H2 c (((Bq.cl lab mv l n k).map fun c : Nat => (c : Int)).map V.int) := .of (by rw [← emx]; exact ec)
      have hml : 0 < ((Bq.cl lab mv l n k).map fun c : Nat => (c : Int)).length := by rw [List.length_map, Bq.cl_len]; exact hn
      refine ⟨_, rfl, c, _, rfl, hmx, hml, fun mx hm1 hm2 => ?_⟩
      have hcm := cnt_max hn hc k hm1 hm2
      have hcl : cntC lab mv l n k ≤ n := cnt_le
      refine ⟨_, rfl, _, _, rfl, rfl, _, rfl, ?_⟩
      by_cases c1 : (b : Int) - 1 < mx
      · rw [decide_eq_true (by omega)]
        refine iteB_t rfl ⟨_, fun σ' H'' z => z, ?_⟩
        refine ⟨_, rfl, c, _, rfl, hmx, hml, fun mx2 hm3 hm4 => ?_⟩
        have hcm2 := cnt_max hn hc k hm3 hm4
        obtain rfl : mx2 = mx := by omega
        obtain ⟨as, era, has, hrw⟩ := id (hra.same s2)
        have hget : ∀ i, i < n → (Bq.cl lab mv l n k)[i]? = some ((Bq.cl lab mv l n k).getD i 0) := clg k
        generalize hg : (fun i => ((Bq.cl lab mv l n k).getD i 0, (List.range l).map fun a => (Bq.cl lab mv l n k).getD (mv i a) 0)) = g
        have hG : ∀ {i}, i < n → ((List.range n).map g).take (i + 1) = ((List.range n).map g).take i ++ [g i] := fun {i} hi => by
          rw [List.take_add_one, List.getElem?_map, List.getElem?_range hi]
          rfl
        refine ⟨_, rfl, ra, _, rfl, .of era, fun D nD => ?_⟩
        refine lc_it (walk_enum (K := K) (a := ra) (xs := as.map V.ref)) (fun i H' => Same H2 H' ∧ ∃ ps : List Addr, H' D = some (.lst (ps.map V.ref)) ∧ KA K kyP H' ps (((List.range n).map g).take i))
          ⟨same_new nD, [], upd_same, rfl, fun i a e => by (cases e)⟩ (fun i H' _ ⟨z, _⟩ => .of (z _ _ era)) ?_ ?_
        · rintro i v H5 H6 hi ⟨s5, ps, eD, hK⟩ ⟨p, xi, y, rfl, np, rfl, hx, hy⟩
          obtain rfl := Option.some.inj hx
          obtain ⟨b2, hb2, rfl⟩ := refsg hy
          obtain ⟨row, hr1, hr2⟩ := hrw i b2 hb2
          obtain ⟨ix, hix, rfl⟩ := mapg hr1
          have hin : i < n := by have := lt_of_get hix; rwa [List.length_range] at this
          rw [List.getElem?_range hin] at hix
          obtain rfl := Option.some.inj hix
          generalize hX : upd H5 p _ = H6; obtain ⟨sH6, ep⟩ := nw np hX; clear hX
          have s26 := s5.trans sH6
          have ec6 := s26 _ _ ec
          refine ⟨p, _, rfl, .of ep, rfl, _, _, rfl, _, _, rfl, rfl, rfl, ?_⟩
          refine ⟨_, rfl, _, rfl, c, _, _, VN ((Bq.cl lab mv l n k).getD i 0), rfl, rfl, .of ec6, atN (hget i hin), ?_⟩
          refine ⟨_, rfl, b2, rfl, ⟨_, .of (s26 _ _ hr2)⟩, fun D2 nD2 => ?_⟩
          refine lc_list (K := K) (a := b2) (xs := (Bq.rowM mv l i).map VN) (fun j H' => Same H6 H' ∧ H' D2 = some (.lst ((((Bq.rowM mv l i).take j).map fun t => (Bq.cl lab mv l n k).getD t 0).map VN)))
            ⟨same_new nD2, upd_same⟩ (fun j H' _ ⟨z, _⟩ => .of (z _ _ (s26 _ _ hr2))) ?_ ?_
          · rintro j v H7 hj ⟨s7, eD2⟩
            obtain ⟨t, ht, rfl⟩ := mapg hj
            have htn : t < n := by
              obtain ⟨a, ha, rfl⟩ := List.mem_map.mp (List.mem_of_getElem? ht)
              exact hc i a hin (List.mem_range.mp ha)
            have hjl : j < l := by have := lt_of_get ht; rwa [List.length_map, List.length_range] at this
            refine ⟨rfl, _, rfl, _, rfl, c, _, _, VN ((Bq.cl lab mv l n k).getD t 0), rfl, rfl, .of (s7 _ _ ec6), atN (hget t htn), _, eD2, ?_, ?_, ?_⟩
            · rw [List.length_map, List.length_map, List.length_take]
              exact Nat.lt_of_le_of_lt (show min j (Bq.rowM mv l i).length ≤ 100 by omega) (by decide)
            · intro q o e
              rw [upd_ne (ne_of_none e nD2)]
              exact s7 _ _ e
            · rw [upd_same, List.take_add_one, ht]
              simp
          rintro H7 ⟨s7, eD2⟩
          rw [List.length_map, List.take_length] at eD2
          have egi : (Bq.rowM mv l i).map (fun t => (Bq.cl lab mv l n k).getD t 0) = (g i).2 := by
            rw [← hg]
            show (List.map _ _).map _ = _
            rw [List.map_map]
            rfl
          rw [egi] at eD2
          refine ⟨D2, _, rfl, .inl ⟨.of eD2, fun t nt => ?_⟩⟩
          generalize hX : upd H7 t _ = H8; obtain ⟨sH8, et⟩ := nw nt hX; clear hX
          refine ⟨by show 2 ≤ sizeLine; decide, fun q nq => ?_⟩
          generalize hX : upd H8 q _ = H9; obtain ⟨sH9, eq⟩ := nw nq hX; clear hX
          have s59 := ((sH6.trans s7).trans sH8).trans sH9
          refine ⟨_, s59 _ _ eD, ?_, ?_, ps ++ [q], ?_, ?_⟩
          · rw [List.length_map, hK.1, List.length_take]
            exact Nat.lt_of_le_of_lt (show min i ((List.range n).map g).length ≤ 100 by omega) (by decide)
          · intro q o e
            rw [upd_ne (ne_of_none e nD)]
            exact s59 _ _ (s5 _ _ e)
          · rw [upd_same, List.map_append]; rfl
          · have eD9 := s59 _ _ eD
            have kt : ∀ b xs, H9 b = some (.tup xs) → (upd H9 D (.lst (ps.map V.ref ++ [V.ref q]))) b = some (.tup xs) := fun b xs e => by rw [upd_ne (fun z => by rw [z, eD9] at e; cases e)]; exact e
            rw [hG hin]
            refine ((hK.same fun b xs e => s59 _ _ e).same kt).snoc ?_
            have e1 : (g i).1 = (Bq.cl lab mv l n k).getD i 0 := by rw [← hg]
            refine nkp_of (c := (g i).1) (cs := (g i).2) (t := t) (kt _ _ ?_) (kt _ _ (sH9 _ _ et))
            rw [e1]
            exact eq
        · rintro H5 ⟨s5, ps, eD, hK⟩
          have eas : (as.map V.ref).length = n := by rw [List.length_map, has, List.length_map, List.length_range]
          rw [eas, show ((List.range n).map g).take n = (List.range n).map g from by rw [List.take_of_length_le]; rw [List.length_map, List.length_range]; exact Nat.le_refl _] at hK
          refine ⟨D, ps, _, rfl, eD, hK, by rw [List.length_map, List.length_range]; exact hn2, fun H6 c2 s6 _ ec2 => ?_⟩
          refine ⟨n - cntC lab mv l n k, by omega, c2, k + 1, cntC lab mv l n k, rfl, ?_, (s2.trans s5).trans s6, ?_, .inr ⟨k, rfl, rfl⟩⟩
          · rw [← hcm]
            simp
          · rw [ec2, ← hg]
            rfl
      · rw [decide_eq_false (by omega)]
        refine iteB_f rfl ⟨c, k, _, _, _, _, rfl, s2, ec, ?_⟩
        rcases hb with ⟨rfl, rfl⟩ | ⟨k', rfl, rfl⟩
        · have hcp : 0 < cntC lab mv l n 0 := by
            have h1 := Mo.lst_of (lab := lab) (mv := mv) (l := l) n 0 0 hn
            obtain ⟨j, _, hj, _⟩ := h1
            exact List.length_pos_of_mem (Mo.mem_ls.mpr hj)
          omega
        · have hst : Mo.Stb lab mv l n k' := Mo.stb_of (by unfold cntC at hcm c1; omega)
          intro i j hi hj e
          exact Mo.stb_all hc hst (k' + 2) (by omega) i j hi hj (Mo.ek_le lab mv l (Nat.le_succ k') e)
    · rintro σ H2 ⟨c, k, v3, v4, v5, v6, rfl, s2, ec, hst⟩
      exact ⟨_, rfl, q H2 c k s2 ec hst⟩
/-! without_alike -/
theorem ext_trans {H H1 H2 : Hp} (a : LamX.ExtN H H1) (b : LamX.ExtN H1 H2) : LamX.ExtN H H2 := fun c o e n => b c o (a c o e n) n
theorem ext_of {H H' : Hp} (s : Same H H') : LamX.ExtN H H' := fun b o e _ => s b o e
theorem tabs_rem {T : List NdefX.NTab} {cl : List (Str × Addr)} {H2 : Hp} (hc : ∀ b ∈ Clo.adr cl, ∃ o x, H2 b = some (.frz o x)) (t : NdefX.TabsN T H2) : NdefX.TabsN T (Clo.remC cl H2) := fun p hp => by
  obtain ⟨ps, h1, h2, h3⟩ := t p hp
  refine ⟨ps, Clo.rem_keep hc h1 (by intro _ _ z; cases z), h2, fun pos cv hv => ?_⟩
  obtain ⟨c, e1, e2⟩ := h3 pos cv hv
  exact ⟨c, e1, Clo.rem_keep hc e2 (by intro _ _ z; unfold LamX.CodeO at z; cases z)⟩
theorem ext_rem {cl : List (Str × Addr)} {g : Addr → V} {os : Addr → Obj} {H1 H2 : Hp} (n : ∀ b ∈ Clo.adr cl, H1 b = none) (s : LamX.ExtN (Clo.addC cl g os H1) H2) : LamX.ExtN H1 (Clo.remC cl H2) := fun b o e nt => by
  rw [Clo.rem_out fun z => ?_]
  · exact s _ _ (Clo.add_keep n b o e) nt
  · rw [n b z] at e; cases e
theorem frz_ext {cl : List (Str × Addr)} {g : Addr → V} {os : Addr → Obj} {H1 H2 : Hp} (s : LamX.ExtN (Clo.addC cl g os H1) H2) : ∀ b ∈ Clo.adr cl, ∃ o x, H2 b = some (.frz o x) := fun b hb => ⟨_, _, s _ _ (Clo.add_in hb) (by intro ps z; cases z)⟩
theorem RwL.ext {H H' : Hp} {r : Addr} {rows : List (List Nat)} (s : LamX.ExtN H H') (h : RwL H r rows) : RwL H' r rows := by
  obtain ⟨as, h1, h2, h3⟩ := h
  exact ⟨as, s _ _ h1 (by intro ps z; cases z), h2, fun i a e => by obtain ⟨row, q1, q2⟩ := h3 i a e; exact ⟨row, q1, s _ _ q2 (by intro ps z; cases z)⟩⟩
theorem rwl_rem {cl : List (Str × Addr)} {H : Hp} {r : Addr} {rows : List (List Nat)} (hc : ∀ b ∈ Clo.adr cl, ∃ o x, H b = some (.frz o x)) (h : RwL H r rows) : RwL (Clo.remC cl H) r rows := by
  obtain ⟨as, h1, h2, h3⟩ := h
  exact ⟨as, Clo.rem_keep hc h1 (by intro _ _ z; cases z), h2, fun i a e => by obtain ⟨row, q1, q2⟩ := h3 i a e; exact ⟨row, q1, Clo.rem_keep hc q2 (by intro _ _ z; cases z)⟩⟩
def spLm (ws : List (Option V)) : Sp := fun vs H Q _ => ∃ (rt a : Addr) (as : List Addr) (k : Nat), ws = [some (.ref rt)] ∧ vs = [VN k] ∧ H rt = some (.lst (as.map V.ref)) ∧ as[k]? = some a ∧ Q (.ref a) H
abbrev lamNF (q : Str) (cells : List (Str × Addr)) (c' : Addr) : NdefX.NF := ⟨"<lambda>", q, Lm.lamA lam_without_alike, [], Lm.lamS lam_without_alike, cloFrom cells (Lm.lamS lam_without_alike).names [], c'⟩
theorem ok_lam {f c' : Addr} {q : Str} {cells : List (Str × Addr)} : Lm.LOk P w K mg base 1 f (lamNF q cells c') (Lm.lamB lam_without_alike) ["state"] ["rows"] spLm := by
  refine Lm.lokC_of (N := N_without_alike_lam) sc_without_alike_lam (fun y c h => Clo.clo_free sc_without_alike_lam h) (fun _ _ us hl => match us, hl with | [_], _ => rfl) (fun ws vs H Q E h => ?_) (fun A outer s H vs ws Q E hr hf hcd hwl h => ?_)
  · obtain ⟨rt, a, as, k, _, rfl, _⟩ := h
    rfl
  · obtain ⟨rt, a, as, k, rfl, rfl, e1, e2, q⟩ := h
    refine ⟨_, (pe_ix (ix_listK (K := K) rfl) (pv 1) (pv 0) (fun _ _ => rfl)), ?_⟩
    exact ⟨_, rfl, _, rfl, rt, _, _, .ref a, rfl, rfl, .of e1, atN e2, q⟩
abbrev wScope : Scope := { kind := .function, names := [(".0", .local), ("place", .local), ("classes", .cell), ("reached_rows", .cell)], isGenerator := false, isCoroutine := false }
/-- the labels: a list of tuples -/
def LabT (K : PySem.W.Frag) (H : Hp) (a : Addr) (xs : List (List Int)) : Prop := ∃ as : List Addr, H a = some (.lst (as.map V.ref)) ∧ KA K kyI H as xs
def LabA (H : Hp) (a : Addr) (xs : List (List Int)) : Prop := ∃ as : List Addr, H a = some (.lst (as.map V.ref)) ∧ as.length = xs.length ∧ ∀ (i : Nat) (b : Addr), as[i]? = some b → ∃ x, xs[i]? = some x ∧ H b = some (.tup (x.map V.int))
/-- the dict of first members -/
def entM (M xs l : List Nat) : List (Key × V) := l.map fun b => ((Sum.inl (M.idxOf b : Int) : Key), VN (xs.idxOf b))
theorem entM_val {M xs : List Nat} {b0 : Nat} (hb : b0 ∈ M) : ∀ {l : List Nat}, (∀ b ∈ l, b ∈ M) → valV (entM M xs l) (Sum.inl (M.idxOf b0 : Int) : Key) = if b0 ∈ l then some (VN (xs.idxOf b0)) else none
  | [], _ => by rw [if_neg List.not_mem_nil]; rfl
  | b :: l, h => by
    by_cases e : b = b0
    · subst e
      rw [show entM M xs (b :: l) = (Sum.inl (M.idxOf b : Int), VN (xs.idxOf b)) :: entM M xs l from rfl, valV_pos rfl, if_pos List.mem_cons_self]
    · rw [show entM M xs (b :: l) = (Sum.inl (M.idxOf b : Int), VN (xs.idxOf b)) :: entM M xs l from rfl, valV_neg (fun z => e (Bq.idx_inj (h b List.mem_cons_self) hb (Int.ofNat.inj (Sum.inl.inj z)))), entM_val hb fun x hx => h x (List.mem_cons_of_mem _ hx)]
      have hiff : b0 ∈ b :: l ↔ b0 ∈ l := by simp [show b0 ≠ b from fun h => e h.symm]
      simp only [hiff]
theorem map_range_get {α β : Type} {N : List Nat} (g : Nat → β) : N.map g = (List.range N.length).map fun i => g (N.getD i 0) := by
  apply List.ext_getElem?
  intro i
  rw [List.getElem?_map, List.getElem?_map]
  rcases Nat.lt_or_ge i N.length with hi | hi
  · rw [List.getElem?_range hi, List.getElem?_eq_getElem hi]
    show some _ = some (g (N.getD i 0))
    rw [List.getD_eq_getElem?_getD, List.getElem?_eq_getElem hi]
    rfl
  · rw [List.getElem?_eq_none hi, List.getElem?_eq_none (by rw [List.length_range]; exact hi)]
    rfl
def spWal (PA0 : Addr) : Sp := fun vs H Q _ => ∃ (la ra : Addr) (lab : Nat → List Int) (mv : Nat → Nat → Nat) (l n s : Nat) (f : Nat → Nat) (M : List Nat), vs = [VN s, .ref la, .ref ra] ∧ LabA H la ((List.range n).map lab) ∧ RwL H ra ((List.range n).map (Bq.rowM mv l)) ∧ s < n ∧ n ≤ 100 ∧ l ≤ 100 ∧
  Bq.Pick lab mv l n f ∧ Bq.OrdQ mv l s f M ∧ NdefX.TabsN (TbT PA0) H ∧
  ∀ (H' : Hp) (p S G : Addr) (sts : List Nat), LamX.ExtN H H' → NdefX.TabsN (TbT PA0) H' → H' p = some (.tup [.ref S, .ref G]) → H' S = some (.lst (sts.map VN)) → RwL H' G (Bq.qrows mv l f M) → sts.map lab = M.map lab → (∀ x ∈ sts, x < n) → Q (.ref p) H'
theorem cal_wal (T : Txt K mg cA0 PA0) (TB0 : LamX.TabB base mg cA0 PA0) : C8.Cal P w K mg base 3 "without_alike" (spWal PA0) [] := by
  have C_explore : C8.Cal P w K mg base 2 "explore" (spExp P w K mg base 1) [] := cal_exp (Nat.le_refl _) T
  have C_alike_classes : C8.Cal P w K mg base 2 "alike_classes" (spAlk (LabT K)) [] := cal_alk (LabAt := LabT K) (spN := spNumN K kyI) (fun H a xs Q h hl q => by obtain ⟨as, h1, h2⟩ := h; exact ⟨a, as, xs, rfl, h1, h2, hl, q⟩) (cal_numN kyI_ky T) T
  obtain ⟨f, fd, F, hm, hb⟩ := T.h_without_alike.ex
  refine ⟨f, fd, _, [], F.ok sc_without_alike (fun vs H Q E h => ?_) (fun A outer s H vs Q E hr h => ?_), hm, F.kp, hb, .nil⟩
  · obtain ⟨la, ra, lab, mv, l, n, s, f, M, rfl, _⟩ := h
    rfl
  · obtain ⟨la, ra, lab, mv, l, n, s0, fp, M, rfl, hla, hra, hs, hn2, hl2, hP, hM, hTb, q⟩ := h
    refine ⟨_, (pss_cons
      (ps_asg (Clo.pe_cAdd (fun ok => Clo.Own.made2 (scope := Lm.lamS lam_without_alike) (sc := defScope s_without_alike) rfl (fun _ => rfl) (by decide +kernel) ok) C_explore hr (by decide) (by rfl) (pa_cons (pe_lst (pa_cons (pv 0) pa_nil)) (pa_cons (Lm.pe_lamB (T := TbT PA0) (sc := defScope s_without_alike) TB0 rfl TbT_mem0 rfl TbT_u0 rfl rfl (by decide +kernel)) pa_nil))) (pg_tup (by rfl) (pgs_cons (pg_name (i := 3) sc_without_alike.nd rfl (.inr rfl)) (pgs_cons (pg_name (i := 4) sc_without_alike.nd rfl (.inr rfl)) pgs_nil))))
      (pss_cons
      (ps_set (i := 5) sc_without_alike.nd rfl (Or.inr rfl) (C8.pe_c C_alike_classes hr (by decide) (by rfl) (pa_cons (pe_lc (own := [("state", 11)]) (g := gName 11) (tt := tYes) rfl sc_without_alike.nd (pi_list (pv 3)) (blkOk_by (N := N_without_alike) (sc := defScope s_without_alike) (by decide +kernel)) (fun _ _ _ _ _ => (pg_name (i := 11) sc_without_alike.nd rfl (Or.inl rfl))) (fun _ _ _ _ _ => pts_nil) (fun _ _ _ _ _ => (pe_ix (ix_listK (K := K) rfl) (pv 1) (pv 11) (fun _ _ => rfl)))) (pa_cons (pv 4) pa_nil))))
      (pss_cons
      (ps_set (i := 6) sc_without_alike.nd rfl (Or.inl rfl) pe_dnewK)
      (pss_cons
      (ps_for PassesOwn.never rfl (pi_enum (by rfl) T.z_enumerate (pa_cons (pv 5) pa_nil)) (pg_tup (by rfl) (pgs_cons (pg_name (i := 7) sc_without_alike.nd rfl (.inl rfl)) (pgs_cons (pg_name (i := 8) sc_without_alike.nd rfl (.inl rfl)) pgs_nil))) (pss_one
      (ps_expr (pe_dsetd (pv 6) (pv 8) (pv 7) ⟨rfl, rfl, rfl, rfl⟩))))
      (pss_cons
      (ps_set (i := 9) sc_without_alike.nd rfl (Or.inl rfl) (Lvx.pe_listVals rfl (pv 6) (by rfl) T.z_list (by decide +kernel)))
      (pss_cons
      (ps_setLc (i := 10) (own := [("place", 7)]) (g := gName 7) (tt := tYes) rfl sc_without_alike.nd rfl rfl (sw_true rfl rfl rfl (by decide +kernel)) (pi_list (pv 9)) (blkOk_by (N := N_without_alike) (sc := defScope s_without_alike) (by decide +kernel)) (fun _ _ _ _ _ => (pg_name (i := 7) sc_without_alike.nd rfl (by first | exact Or.inl rfl | exact Or.inr rfl))) (fun _ _ _ _ _ => pts_nil) (fun _ _ _ _ _ => (pe_lc (own := [("target", 12)]) (g := gName 12) (tt := tYes) rfl sc_without_alike.nd (pi_listK (K := K) rfl (pe_ix (ix_listK (K := K) rfl) (pv 4) (pv 7) (fun _ _ => rfl))) (blkOk_by (N := N_without_alike) (sc := wScope) (by decide +kernel)) (fun _ _ _ _ _ => (pg_name (i := 12) sc_without_alike.nd rfl (Or.inl rfl))) (fun _ _ _ _ _ => pts_nil) (fun _ _ _ _ _ => (pe_ix (ix_listK (K := K) rfl) (pv 5) (pv 12) (fun _ _ => rfl))))))
      (pss_one
      (ps_ret (pe_tup (pa_cons (pe_lc (own := [("place", 7)]) (g := gName 7) (tt := tYes) rfl sc_without_alike.nd (pi_list (pv 9)) (blkOk_by (N := N_without_alike) (sc := defScope s_without_alike) (by decide +kernel)) (fun _ _ _ _ _ => (pg_name (i := 7) sc_without_alike.nd rfl (Or.inl rfl))) (fun _ _ _ _ _ => pts_nil) (fun _ _ _ _ _ => (pe_ix (ix_listK (K := K) rfl) (pv 3) (pv 7) (fun _ _ => rfl)))) (pa_cons (pv 10) pa_nil))))))))))), ?_⟩
    obtain ⟨as, era, has, hrw⟩ := id hra
    have frm : ∀ {cells : List (Str × Addr)}, ∀ p ∈ cloFrom cells (Lm.lamS lam_without_alike).names [], p.1 = "rows" := fun {cells} p hp => by
      rcases cloFrom_mem (n := p.1) (c := p.2) hp with z | ⟨z, _⟩
      · cases z
      · have := sc_without_alike_lam.free _ z rfl
        simpa using this
    refine ⟨_, rfl, by show 1 ≤ sizeLine; decide, fun st nst => ?_⟩
    generalize hX : upd H st _ = H1; obtain ⟨sH1, est⟩ := nw nst hX; clear hX
    refine ⟨hTb.ext sH1, fun fl cl H2 x2 nn2 hTb2 f0 fl2 cl2 => ?_⟩
    have x02 := ext_trans (ext_of sH1) x2
    refine ⟨fun n => .ref ra, fun p hp => ⟨2, by rw [frm p hp]; rfl, rfl⟩, fun g os inj hg nA => ?_⟩
    have keep2 := Clo.add_keep (g := g) (os := os) nA
    have hC := Clo.cel_of (F := lamNF ("without_alike" ++ ".<locals>." ++ "<lambda>") _ cl) (fr := ["rows"]) (gn := fun (n : Str) => V.ref ra) (os := os) (H := H2) rfl (by decide +kernel) (fun p hp => hp) inj hg
    refine ⟨st, fl, _, _, ["state"], ["rows"], [some (.ref ra)], spLm, 1, s0, Bq.rowM mv l, n, rfl, keep2 _ _ fl2, keep2 _ _ cl2, hC, Nat.le_refl _, ok_lam, ?_, keep2 _ _ (x2 _ _ est (by intro ps z; cases z)), hs, ?_, by omega, fun k => by rw [List.length_map, List.length_range]; exact hl2, fun H5 p nl gl ns s5 ep enl hrw5 hord => ?_⟩
    · intro H' k Q' s' hk hq
      have hC' := hC.ext s'
      have era' : H' ra = some (.lst (as.map V.ref)) := s' _ _ (keep2 _ _ (x02 _ _ era (by intro ps z; cases z)))
      obtain ⟨a, ha⟩ : ∃ a, as[k]? = some a := ⟨_, List.getElem?_eq_getElem (by rw [has, List.length_map, List.length_range]; exact hk)⟩
      obtain ⟨row, hr1, hr2⟩ := hrw k a ha
      obtain ⟨kx, hkx, rfl⟩ := mapg hr1
      rw [List.getElem?_range hk] at hkx
      obtain rfl := Option.some.inj hkx
      have ea0 := keep2 _ _ (x02 _ _ hr2 (by intro ps z; cases z))
      refine ⟨ra, a, as, k, rfl, rfl, hC'.keep era' (by intro _ _ z; cases z), ha, fun gone => ?_⟩
      exact hq _ a (hC'.back fun b o e => e) ea0
    · intro k hk t ht
      obtain ⟨a, ha, rfl⟩ := List.mem_map.mp ht
      exact hP.cl k a hk (List.mem_range.mp ha)
    have frz := frz_ext (ext_of s5)
    have x6 := ext_trans x02 (ext_rem nA (ext_of s5))
    have hTb6 := tabs_rem frz ((hTb2.ext keep2).ext s5)
    have ep6 := Clo.rem_keep frz ep (by intro _ _ z; cases z)
    have enl6 := Clo.rem_keep frz enl (by intro _ _ z; cases z)
    have hrw6 := rwl_rem frz hrw5
    dsimp only
    generalize Clo.remC _ H5 = H6 at x6 hTb6 ep6 enl6 hrw6 ⊢
    clear frz s5 ep enl hrw5 hC keep2 nA inj hg fl2 cl2 f0 hTb2 nn2 x2 x02 sH1 est nst H1 H2 H5 g os fl cl
    have hnn : ∀ x ∈ ns, x < n := Bq.ord_in (U := (· < n)) hord hs fun k hk t ht => by
      obtain ⟨a, ha, rfl⟩ := List.mem_map.mp ht
      exact hP.cl k a hk (List.mem_range.mp ha)
    have hnd := Bq.ord_nd hord
    have hnl : ns.length ≤ n := by
      have := List.Nodup.length_le_of_subset hnd (l₂ := List.range n) fun x hx => List.mem_range.mpr (hnn x hx)
      rwa [List.length_range] at this
    have hn0 : 0 < ns.length := (List.getElem?_eq_some_iff.mp (Bq.ord_start hord)).1
    have hNm : ∀ s a, s ∈ ns → a < l → mv s a ∈ ns := fun s a hs ha => Bq.ord_mem hord hs (List.mem_map.mpr ⟨a, List.mem_range.mpr ha, rfl⟩)
    refine ⟨p, _, rfl, .of ep6, rfl, _, _, rfl, _, _, rfl, rfl, ?_⟩
    obtain ⟨las, ela0, hlal, hlag⟩ := id hla
    have ela : H6 la = some (.lst (las.map V.ref)) := x6 _ _ ela0 (by intro ps z; cases z)
    refine ⟨_, rfl, nl, rfl, ⟨_, .of enl6⟩, fun D nD => lc_list (K := K) (a := nl) (xs := ns.map VN) (fun i H' => Same H6 H' ∧ ∃ ds : List Addr, H' D = some (.lst (ds.map V.ref)) ∧ KA K kyI H' ds ((ns.take i).map lab))
      ⟨same_new nD, [], upd_same, rfl, fun j a e => by (cases e)⟩ (fun j H' _ ⟨z, _⟩ => .of (z _ _ enl6)) ?_ ?_⟩
    · rintro i v H7 hi ⟨s7, ds, eD, hKA⟩
      obtain ⟨x, hx, rfl⟩ := mapg hi
      have hxn := hnn x (List.mem_of_getElem? hx)
      obtain ⟨b, hb⟩ : ∃ b, las[x]? = some b := ⟨_, List.getElem?_eq_getElem (by rw [hlal, List.length_map, List.length_range]; exact hxn)⟩
      obtain ⟨xl, hx1, hx2⟩ := hlag x b hb
      rw [List.getElem?_map, List.getElem?_range hxn] at hx1
      obtain rfl := Option.some.inj hx1
      have eb7 := s7 _ _ (x6 _ _ hx2 (by intro ps z; cases z))
      refine ⟨rfl, _, rfl, _, rfl, la, _, _, .ref b, rfl, rfl, .of (s7 _ _ ela), atN hb, _, eD, ?_, ?_, ds ++ [b], ?_, ?_⟩
      · rw [List.length_map, hKA.1, List.length_map, List.length_take]
        exact Nat.lt_of_le_of_lt (show min i ns.length ≤ 100 by omega) (by decide)
      · intro q o e
        rw [upd_ne (ne_of_none e nD)]
        exact s7 _ _ e
      · rw [upd_same, List.map_append]; rfl
      · have kt : ∀ c xs, H7 c = some (.tup xs) → (upd H7 D (.lst (ds.map V.ref ++ [V.ref b]))) c = some (.tup xs) := fun c xs e => by rw [upd_ne (fun z => by rw [z, eD] at e; cases e)]; exact e
        rw [List.take_add_one, hx]
        show KA K kyI _ _ ((ns.take i ++ [x]).map lab)
        rw [List.map_append]
        exact (hKA.same kt).snoc (nk_iff.mpr (.inl (kt _ _ eb7)))
    rintro H7 ⟨s7, ds, eD, hKA⟩
    rw [List.length_map, List.take_length] at hKA
    have hlabE : ns.map lab = (List.range ns.length).map fun i => lab (ns.getD i 0) := map_range_get (α := Nat) lab
    have hrowE : (ns.map fun k => (Bq.rowM mv l k).map ns.idxOf) = (List.range ns.length).map (Bq.rowM (fun i a => ns.idxOf (mv (ns.getD i 0) a)) l) := by
      rw [map_range_get (α := Nat) (fun k => (Bq.rowM mv l k).map ns.idxOf)]
      refine List.map_congr_left fun i _ => ?_
      show (List.map _ _).map _ = _
      rw [List.map_map]
      rfl
    rw [hlabE] at hKA
    have gmem : ∀ {i}, i < ns.length → ns.getD i 0 ∈ ns := fun h => Bq.getD_mem h
    refine ⟨_, rfl, D, gl, _, _, l, ns.length, rfl, ⟨ds, eD, hKA⟩, ?_, hn0, by omega, hl2, fun i a hi ha => List.idxOf_lt_length_iff.mpr (hNm _ a (gmem hi) ha), fun H8 c k s8 ec hst => ?_⟩
    · rw [← hrowE]
      exact hrw6.same s7
    have ecl : Bq.cl (fun i => lab (ns.getD i 0)) (fun i a => ns.idxOf (mv (ns.getD i 0) a)) l ns.length k = Bq.num (ns.map fp) := by
      cases k with
      | zero => exact Bq.quot_num hP.cl hNm hnn hP.fe hst _ rfl
      | succ k => exact Bq.quot_num hP.cl hNm hnn hP.fe hst _ rfl
    rw [ecl] at ec
    have eM : M = Bq.add [] (ns.map fp) := Bq.quot_order hP.cl hord hnn hP.fp hP.fe hM
    have s68 := s7.trans s8
    have enl8 := s68 _ _ enl6
    have hrw8 := hrw6.same s68
    have x8 := ext_trans x6 (ext_of s68)
    have hTb8 := hTb6.ext s68
    clear s7 s8 s68 x6 hTb6 enl6 hrw6 eD nD hKA ela hlabE hrowE hst ecl ep6 H7 H6
    generalize hxs : ns.map fp = xs at ec eM
    have hxl : xs.length = ns.length := by rw [← hxs, List.length_map]
    have hMm : ∀ {b}, b ∈ M ↔ b ∈ xs := fun {b} => by
      rw [eM, Bq.mem_add]
      exact ⟨fun z => z.elim (fun y => by cases y) id, .inr⟩
    have hMl : M.length ≤ 100 := by
      have := num_len_le xs
      rw [← eM] at this
      omega
    have hcl : (Bq.num xs).length = ns.length := by rw [Bq.num_len, hxl]
    -- members
    refine fun d nd => ?_
    generalize hX : upd H8 d _ = H9; obtain ⟨sH9, ed⟩ := nw nd hX; clear hX
    have ec9 := sH9 _ _ ec
    refine ⟨_, rfl, c, _, rfl, .of ec9, ?_⟩
    refine for_it (walk_enum (K := K) (a := c) (xs := (Bq.num xs).map VN)) (fun i σ H' => ∃ v7 v8 : Option V, σ = [some (VN s0), some (.ref la), some (.ref ra), some (.ref nl), some (.ref gl), some (.ref c), some (.ref d), v7, v8, none, none, none, none] ∧ Same H8 H' ∧ H' d = some (.dK (entM M xs (Bq.add [] (xs.take i)))))
      ⟨none, none, rfl, sH9, ed⟩ (fun i σ H' _ ⟨_, _, _, z, _⟩ => .of (z _ _ ec)) ?_ ?_
    · rintro i v σ H10 H11 hi ⟨v7, v8, rfl, s10, ed10⟩ ⟨p2, xi, y, rfl, np2, rfl, hx, hy⟩
      obtain rfl := Option.some.inj hx
      obtain ⟨nb, hnb, rfl⟩ := mapg hy
      generalize hX : upd H10 p2 _ = H11; obtain ⟨sH11, ep2⟩ := nw np2 hX; clear hX
      have hin : i < xs.length := by have := lt_of_get hnb; rwa [Bq.num_len] at this
      obtain ⟨x, hxi⟩ : ∃ x, xs[i]? = some x := ⟨_, List.getElem?_eq_getElem hin⟩
      have enb : nb = M.idxOf x := by
        unfold Bq.num at hnb
        rw [List.getElem?_map, hxi] at hnb
        rw [eM]
        exact (Option.some.inj hnb).symm
      subst enb
      have hxM : x ∈ M := hMm.mpr (List.mem_of_getElem? hxi)
      have hsub : ∀ b ∈ Bq.add [] (xs.take i), b ∈ M := fun b hb => hMm.mpr ((Bq.mem_add.mp hb).elim (fun y => by cases y) List.mem_of_mem_take)
      have hval := entM_val (xs := xs) hxM hsub
      refine ⟨p2, _, rfl, .of ep2, rfl, _, _, rfl, _, _, rfl, rfl, ?_⟩
      have ed11 := sH11 _ _ ed10
      have hlen : (entM M xs (Bq.add [] (xs.take i))).length < sizeLine := by
        unfold entM
        rw [List.length_map]
        have := num_len_le (xs.take i)
        rw [List.length_take] at this
        exact Nat.lt_of_le_of_lt (show _ ≤ 100 by omega) (by decide)
      refine ⟨_, rfl, d, rfl, .inl ⟨_, .inl ed11⟩, _, rfl, _, rfl, _, Sum.inl (M.idxOf x : Int), ed11, rfl, hlen, fun v hv => ?_, fun hv => ?_⟩
      · rw [hval] at hv
        split at hv
        · rename_i hc2
          refine ⟨_, _, rfl, s10.trans sH11, ?_⟩
          rw [Bq.take_add1 hxi, show Bq.ad _ x = _ from if_pos hc2]
          exact ed11
        · cases hv
      · rw [hval] at hv
        split at hv
        · cases hv
        · rename_i hc2
          refine ⟨_, _, rfl, fun q o e => by rw [upd_ne (ne_of_none e nd)]; exact (s10.trans sH11) _ _ e, ?_⟩
          rw [upd_same, Bq.take_add1 hxi, show Bq.ad (Bq.add [] (xs.take i)) x = Bq.add [] (xs.take i) ++ [x] from if_neg hc2, putK_new _ (by rw [hval, if_neg hc2])]
          unfold entM
          rw [List.map_append, List.map_cons, Bq.idx_first hxi hc2]
          rfl
    rintro σ H10 ⟨v7, v8, rfl, s10, ed10⟩
    rw [List.length_map, hcl, ← hxl, List.take_length, ← eM] at ed10
    clear sH9 ed ec9
    -- chosen
    refine ⟨_, rfl, d, _, rfl, ed10, fun ch nch => ?_⟩
    generalize hX : upd H10 ch _ = H11; obtain ⟨sH11, ech⟩ := nw nch hX; clear hX
    have ech' : H11 ch = some (.lst ((M.map xs.idxOf).map VN)) := by
      rw [ech]
      unfold entM
      rw [List.map_map, List.map_map]
      rfl
    have s11 := s10.trans sH11
    clear ech s10 sH11 ed10 nd nch
    have hplace : ∀ {b}, b ∈ M → ∃ y, ns[xs.idxOf b]? = some y ∧ fp y = b ∧ y < n ∧ xs.idxOf b < ns.length := fun {b} hb => by
      have hbx := hMm.mp hb
      have h1 := Bq.get_idx hbx
      rw [← hxs, List.getElem?_map] at h1
      have h2 : xs.idxOf b < ns.length := by rw [← hxl]; exact List.idxOf_lt_length_iff.mpr hbx
      rw [hxs, List.getElem?_eq_getElem h2] at h1
      exact ⟨_, List.getElem?_eq_getElem h2, Option.some.inj h1, hnn _ (List.getElem_mem h2), h2⟩
    obtain ⟨rs0, ers0, hrs0, hrs1⟩ := id hrw8
    have ec11 := s11 _ _ ec
    -- the rows
    refine ⟨_, rfl, ch, rfl, ⟨_, .of ech'⟩, fun D nD => lc_list (K := K) (a := ch) (xs := (M.map xs.idxOf).map VN) (fun i H' => Same H11 H' ∧ ∃ gs : List Addr, H' D = some (.lst (gs.map V.ref)) ∧ gs.length = i ∧ ∀ (j : Nat) (a : Addr), gs[j]? = some a → a ≠ D ∧ ∃ row, (Bq.qrows mv l fp M)[j]? = some row ∧ H' a = some (.lst (row.map VN)))
      ⟨same_new nD, [], upd_same, rfl, fun j a e => by (cases e)⟩ (fun j H' _ ⟨z, _⟩ => .of (z _ _ ech')) ?_ ?_⟩
    · rintro i v H12 hi ⟨s12, gs, eD, hgl, hgs⟩
      obtain ⟨pl, hpl, rfl⟩ := mapg hi
      obtain ⟨b, hb, rfl⟩ := mapg hpl
      have hbM := List.mem_of_getElem? hb
      obtain ⟨y, hy1, hy2, hy3, hy4⟩ := hplace hbM
      obtain ⟨ra2, hra2⟩ : ∃ a, rs0[xs.idxOf b]? = some a := ⟨_, List.getElem?_eq_getElem (by rw [hrs0, List.length_map]; exact hy4)⟩
      obtain ⟨row, hr1, hr2⟩ := hrs1 _ _ hra2
      obtain ⟨y', hy', rfl⟩ := mapg hr1
      rw [hy1] at hy'
      obtain rfl := Option.some.inj hy'
      have hr12 := s12 _ _ (s11 _ _ hr2)
      refine ⟨rfl, ?_⟩
      refine ⟨_, rfl, _, rfl, gl, _, _, .ref ra2, rfl, rfl, .of (s12 _ _ (s11 _ _ ers0)), atN hra2, ra2, rfl, ⟨_, .of hr12⟩, fun D2 nD2 => ?_⟩
      refine lc_list (K := K) (a := ra2) (xs := ((Bq.rowM mv l y).map ns.idxOf).map VN) (fun j H' => Same H12 H' ∧ H' D2 = some (.lst ((((List.range l).take j).map fun a => M.idxOf (fp (mv b a))).map VN)))
        ⟨same_new nD2, upd_same⟩ (fun j H' _ ⟨z, _⟩ => .of (z _ _ hr12)) ?_ ?_
      · rintro j v H13 hj ⟨s13, eD2⟩
        obtain ⟨t, ht, rfl⟩ := mapg hj
        obtain ⟨z, hz, rfl⟩ := mapg ht
        obtain ⟨a, ha, rfl⟩ := mapg hz
        have hjl : j < l := by have := lt_of_get ha; rwa [List.length_range] at this
        rw [List.getElem?_range hjl] at ha
        obtain rfl := Option.some.inj ha
        have hym := List.mem_of_getElem? hy1
        have hmm := hNm y j hym hjl
        have hix := Bq.get_idx hmm
        have hcv : (Bq.num xs)[ns.idxOf (mv y j)]? = some (M.idxOf (fp (mv b j))) := by
          unfold Bq.num
          rw [List.getElem?_map, ← hxs, List.getElem?_map, hix, hxs, ← eM]
          show some (M.idxOf (fp (mv y j))) = _
          rw [← hP.step hy3 hjl, hy2]
        refine ⟨rfl, _, rfl, _, rfl, c, _, _, VN (M.idxOf (fp (mv b j))), rfl, rfl, .of (s13 _ _ (s12 _ _ ec11)), atN hcv, _, eD2, ?_, ?_, ?_⟩
        · rw [List.length_map, List.length_map, List.length_take, List.length_range]
          exact Nat.lt_of_le_of_lt (show min j l ≤ 100 by omega) (by decide)
        · intro q o e
          rw [upd_ne (ne_of_none e nD2)]
          exact s13 _ _ e
        · rw [upd_same, List.take_add_one, List.getElem?_range hjl]
          simp
      rintro H13 ⟨s13, eD2⟩
      have hll : (((Bq.rowM mv l y).map ns.idxOf).map VN).length = (List.range l).length := by rw [List.length_map, List.length_map, List.length_map]
      rw [hll, List.take_length] at eD2
      have eD13 := s13 _ _ eD
      have nDD : D2 ≠ D := fun z => by rw [z, eD] at nD2; cases nD2
      refine ⟨_, eD13, by rw [List.length_map, hgl]; exact Nat.lt_of_le_of_lt (show i ≤ 100 by have := lt_of_get hb; omega) (by decide), ?_, gs ++ [D2], by rw [upd_same, List.map_append]; rfl, by rw [List.length_append, hgl]; rfl, fun j a e => ?_⟩
      · intro q o e
        rw [upd_ne (ne_of_none e nD)]
        exact s13 _ _ (s12 _ _ e)
      · rcases snocg e with ⟨_, z⟩ | ⟨z1, z2⟩
        · obtain ⟨n1, row, q1, q2⟩ := hgs j a z
          exact ⟨n1, row, q1, by rw [upd_ne n1]; exact s13 _ _ q2⟩
        · rw [z1, z2, hgl]
          exact ⟨nDD, _, by unfold Bq.qrows; rw [List.getElem?_map, hb]; rfl, by rw [upd_ne nDD]; exact eD2⟩
    rintro H12 ⟨s12, gs, eD, hgl, hgs⟩
    have ech12 := s12 _ _ ech'
    have eG12 : RwL H12 D (Bq.qrows mv l fp M) := ⟨gs, eD, by rw [hgl, List.length_map, List.length_map]; unfold Bq.qrows; rw [List.length_map], fun j a e => (hgs j a e).2⟩
    -- the states
    refine ⟨_, rfl, ch, rfl, ⟨_, .of ech12⟩, fun S nS => lc_list (K := K) (a := ch) (xs := (M.map xs.idxOf).map VN) (fun i H' => Same H12 H' ∧ H' S = some (.lst (((M.take i).map fun b => ns.getD (xs.idxOf b) 0).map VN)))
      ⟨same_new nS, upd_same⟩ (fun j H' _ ⟨z, _⟩ => .of (z _ _ ech12)) ?_ ?_⟩
    · rintro i v H13 hi ⟨s13, eS⟩
      obtain ⟨pl, hpl, rfl⟩ := mapg hi
      obtain ⟨b, hb, rfl⟩ := mapg hpl
      have hbM := List.mem_of_getElem? hb
      obtain ⟨y, hy1, hy2, hy3, hy4⟩ := hplace hbM
      have hyd : ns.getD (xs.idxOf b) 0 = y := by rw [List.getD_eq_getElem?_getD, hy1]; rfl
      refine ⟨rfl, _, rfl, _, rfl, nl, _, _, VN y, rfl, rfl, .of (s13 _ _ (s12 _ _ (s11 _ _ enl8))), atN hy1, _, eS, ?_, ?_, ?_⟩
      · rw [List.length_map, List.length_map, List.length_take]
        exact Nat.lt_of_le_of_lt (show min i M.length ≤ 100 by omega) (by decide)
      · intro q o e
        rw [upd_ne (ne_of_none e nS)]
        exact s13 _ _ e
      · rw [upd_same, List.take_add_one, hb]
        simp [hy1]
    rintro H13 ⟨s13, eS⟩
    rw [List.length_map, List.length_map, List.take_length] at eS
    refine ⟨_, rfl, by show 2 ≤ sizeLine; decide, fun pr npr => ?_⟩
    generalize hX : upd H13 pr _ = H14; obtain ⟨sH14, epr⟩ := nw npr hX; clear hX
    have s814 := ((s11.trans s12).trans s13).trans sH14
    refine q H14 pr S D _ (ext_trans x8 (ext_of s814)) (hTb8.ext s814) epr (sH14 _ _ eS) ((eG12.same s13).same sH14) ?_ ?_
    · rw [List.map_map]
      refine List.map_congr_left fun b hb => ?_
      obtain ⟨y, hy1, hy2, hy3, hy4⟩ := hplace hb
      show lab (ns.getD (xs.idxOf b) 0) = lab b
      rw [List.getD_eq_getElem?_getD, hy1, ← hy2, hP.same hy3]
      rfl
    · intro x hx
      obtain ⟨b, hb, rfl⟩ := List.mem_map.mp hx
      obtain ⟨y, hy1, hy2, hy3, hy4⟩ := hplace hb
      rw [List.getD_eq_getElem?_getD, hy1]
      exact hy3
theorem units65 {k : Nat} {A : Around} (h : Room k A) : A.units + 65 < cLine := by
  have := h.un
  omega
abbrev Q3 := (Int × Int) × List Int
def cellZ (c : List (List (Int × Int))) (s l : Int) : Int × Int := (c.getD s.toNat []).getD l.toNat (0, 0)
def stepL (A B : List (List (Int × Int))) (e : Q3) (W : List Q3) (l : Nat) : Sum (List Int) (List Q3) :=
  if (cellZ A e.1.1 l).2 ≠ (cellZ B e.1.2 l).2 then .inl (e.2 ++ [(l : Int)])
  else if ((cellZ A e.1.1 l).1, (cellZ B e.1.2 l).1) ∈ W.map (·.1) then .inr W
  else .inr (W ++ [(((cellZ A e.1.1 l).1, (cellZ B e.1.2 l).1), e.2 ++ [(l : Int)])])
def lets (A B : List (List (Int × Int))) (e : Q3) (W : List Q3) : Nat → Sum (List Int) (List Q3)
  | 0 => .inr W
  | n + 1 => match lets A B e W n with
    | .inl r => .inl r
    | .inr W' => stepL A B e W' n
def gST : Sum (List Int) (List Q3) := .inr [((0, 0), [])]
def GG (A B : List (List (Int × Int))) (I : Nat) : Nat → Sum (List Int) (List Q3)
  | 0 => gST
  | k + 1 => match GG A B I k with
    | .inl r => .inl r
    | .inr W => match W[k]? with
      | none => .inr W
      | some e => lets A B e W I
def Res (A B : List (List (Int × Int))) (I : Nat) (r : Option (List Int)) : Prop := ∃ k, (∃ x, r = some x ∧ GG A B I k = .inl x) ∨ (r = none ∧ ∃ W, GG A B I k = .inr W ∧ W.length ≤ k)
theorem gg_inl {A B : List (List (Int × Int))} {I k : Nat} {x : List Int} (h : GG A B I k = .inl x) : GG A B I (k + 1) = .inl x := by rw [GG, h]
theorem gg_inr {A B : List (List (Int × Int))} {I k : Nat} {W : List Q3} (h : GG A B I k = .inr W) {e : Q3} (he : W[k]? = some e) : GG A B I (k + 1) = lets A B e W I := by rw [GG, h]; show (match W[k]? with | none => _ | some e => _) = _; rw [he]
theorem gg_end {A B : List (List (Int × Int))} {I k : Nat} {W : List Q3} (h : GG A B I k = .inr W) (hl : W.length ≤ k) : GG A B I (k + 1) = .inr W := by rw [GG, h]; show (match W[k]? with | none => _ | some e => _) = _; rw [List.getElem?_eq_none hl]
theorem gg_inl' {A B : List (List (Int × Int))} {I k : Nat} {x : List Int} (h : GG A B I k = .inl x) : ∀ j, GG A B I (k + j) = .inl x
  | 0 => h
  | j + 1 => gg_inl (gg_inl' h j)
theorem gg_end' {A B : List (List (Int × Int))} {I k : Nat} {W : List Q3} (h : GG A B I k = .inr W) (hl : W.length ≤ k) : ∀ j, GG A B I (k + j) = .inr W
  | 0 => h
  | j + 1 => gg_end (gg_end' h hl j) (Nat.le_trans hl (Nat.le_add_right k j))
theorem res_uniq {A B : List (List (Int × Int))} {I : Nat} {r r' : Option (List Int)} (h : Res A B I r) (h' : Res A B I r') : r = r' := by
  obtain ⟨k, h⟩ := h
  obtain ⟨k', h'⟩ := h'
  have e1 : k + k' = k' + k := Nat.add_comm _ _
  rcases h with ⟨x, rfl, g⟩ | ⟨rfl, W, g, l⟩ <;> rcases h' with ⟨x', rfl, g'⟩ | ⟨rfl, W', g', l'⟩
  · have a := gg_inl' g k'
    have b := gg_inl' g' k
    rw [e1, b] at a
    cases a
    rfl
  · have a := gg_inl' g k'
    have b := gg_end' g' l' k
    rw [e1, b] at a
    cases a
  · have a := gg_end' g l k'
    have b := gg_inl' g' k
    rw [e1, b] at a
    cases a
  · rfl
def sw3 (e : Q3) : Q3 := ((e.1.2, e.1.1), e.2)
def swS : Sum (List Int) (List Q3) → Sum (List Int) (List Q3)
  | .inl r => .inl r
  | .inr W => .inr (W.map sw3)
theorem sw_mem (W : List Q3) (a b : Int) : (b, a) ∈ (W.map sw3).map (·.1) ↔ (a, b) ∈ W.map (·.1) := by
  simp only [List.mem_map]
  constructor
  · rintro ⟨e, ⟨f, hf, rfl⟩, h⟩
    exact ⟨f, hf, by have := Prod.mk.inj h; exact Prod.ext this.2 this.1⟩
  · rintro ⟨f, hf, h⟩
    exact ⟨sw3 f, ⟨f, hf, rfl⟩, by show (f.1.2, f.1.1) = _; rw [h]⟩
theorem sw_step (A B : List (List (Int × Int))) (e : Q3) (W : List Q3) (l : Nat) : stepL B A (sw3 e) (W.map sw3) l = swS (stepL A B e W l) := by
  unfold stepL
  by_cases h1 : (cellZ A e.1.1 l).2 = (cellZ B e.1.2 l).2
  · have h1' : ¬ ((cellZ B (sw3 e).1.1 l).2 ≠ (cellZ A (sw3 e).1.2 l).2) := fun z => z h1.symm
    have h1'' : ¬ ((cellZ A e.1.1 l).2 ≠ (cellZ B e.1.2 l).2) := fun z => z h1
    rw [if_neg h1', if_neg h1'']
    by_cases h2 : ((cellZ A e.1.1 l).1, (cellZ B e.1.2 l).1) ∈ W.map (·.1)
    · have h2' : ((cellZ B (sw3 e).1.1 l).1, (cellZ A (sw3 e).1.2 l).1) ∈ (W.map sw3).map (·.1) := (sw_mem W _ _).mpr h2
      rw [if_pos h2', if_pos h2]
      rfl
    · have h2' : ¬ ((cellZ B (sw3 e).1.1 l).1, (cellZ A (sw3 e).1.2 l).1) ∈ (W.map sw3).map (·.1) := fun z => h2 ((sw_mem W _ _).mp z)
      rw [if_neg h2', if_neg h2]
      show Sum.inr _ = Sum.inr ((W ++ _).map sw3)
      rw [List.map_append]
      rfl
  · have h1' : (cellZ B (sw3 e).1.1 l).2 ≠ (cellZ A (sw3 e).1.2 l).2 := fun z => h1 z.symm
    rw [if_pos h1', if_pos h1]
    rfl
theorem sw_lets (A B : List (List (Int × Int))) (e : Q3) (W : List Q3) : ∀ n, lets B A (sw3 e) (W.map sw3) n = swS (lets A B e W n)
  | 0 => rfl
  | n + 1 => by
    rw [lets, sw_lets A B e W n, lets]
    cases lets A B e W n with
    | inl r => rfl
    | inr W' => exact sw_step A B e W' n
theorem sw_gg (A B : List (List (Int × Int))) (I : Nat) : ∀ k, GG B A I k = swS (GG A B I k)
  | 0 => rfl
  | k + 1 => by
    rw [GG, sw_gg A B I k, GG]
    cases GG A B I k with
    | inl r => rfl
    | inr W =>
      show (match (W.map sw3)[k]? with | none => _ | some e => _) = swS (match W[k]? with | none => _ | some e => _)
      rw [List.getElem?_map]
      cases W[k]? with
      | none => rfl
      | some e => exact sw_lets A B e W I
theorem res_swap {A B : List (List (Int × Int))} {I : Nat} {r : Option (List Int)} (h : Res A B I r) : Res B A I r := by
  obtain ⟨k, h⟩ := h
  refine ⟨k, ?_⟩
  rw [sw_gg]
  rcases h with ⟨x, e, g⟩ | ⟨e, W, g, l⟩
  · exact .inl ⟨x, e, by rw [g]; rfl⟩
  · exact .inr ⟨e, W.map sw3, by rw [g]; rfl, by rw [List.length_map]; exact l⟩
/-- all pairs are states, none is there twice -/
structure Wok (n m : Nat) (W : List Q3) : Prop where
  nd : (W.map (·.1)).Nodup
  i1 : ∀ e ∈ W, 0 ≤ e.1.1 ∧ e.1.1 < (n : Int)
  i2 : ∀ e ∈ W, 0 ≤ e.1.2 ∧ e.1.2 < (m : Int)
theorem nodup_len (n : Nat) : ∀ xs : List Nat, xs.Nodup → (∀ x ∈ xs, x < n) → xs.length ≤ n := by
  induction n with
  | zero =>
    intro xs _ h
    cases xs with
    | nil => exact Nat.le_refl _
    | cons x xs => exact absurd (h x List.mem_cons_self) (Nat.not_lt_zero _)
  | succ n ih =>
    intro xs nd h
    have h1 := ih (xs.filter (fun x => decide (x ≠ n))) (nd.sublist List.filter_sublist) (fun x hx => by
      have h2 := List.mem_filter.mp hx
      have h3 := h x h2.1
      have h4 := of_decide_eq_true h2.2
      omega)
    have h5 : xs.length ≤ (xs.filter (fun x => decide (x ≠ n))).length + 1 := by
      clear ih h1 h
      induction xs with
      | nil => simp
      | cons x xs ihx =>
        rw [List.nodup_cons] at nd
        by_cases hx : x = n
        · subst hx
          have : xs.filter (fun y => decide (y ≠ x)) = xs := List.filter_eq_self.mpr fun y hy => decide_eq_true (fun z => nd.1 (z ▸ hy))
          have h0 : (x :: xs).filter (fun y => decide (y ≠ x)) = xs.filter (fun y => decide (y ≠ x)) := List.filter_cons_of_neg (by simp)
          rw [h0, this]
          exact Nat.le_refl _
        · have h0 : (x :: xs).filter (fun y => decide (y ≠ n)) = x :: xs.filter (fun y => decide (y ≠ n)) := List.filter_cons_of_pos (decide_eq_true hx)
          rw [h0, List.length_cons, List.length_cons]
          have := ihx nd.2
          omega
    omega
theorem wok_len {n m : Nat} {W : List Q3} (h : Wok n m W) : W.length ≤ n * m := by
  have h1 := nodup_len (n * m) (W.map fun e => e.1.1.toNat * m + e.1.2.toNat) ?_ ?_
  · rw [List.length_map] at h1
    exact h1
  · have e : (W.map fun e : Q3 => e.1.1.toNat * m + e.1.2.toNat) = (W.map (·.1)).map fun p : Int × Int => p.1.toNat * m + p.2.toNat := by rw [List.map_map]; rfl
    rw [e]
    have h2 : ∀ p ∈ W.map (·.1), (0 ≤ p.1 ∧ p.1 < (n : Int)) ∧ 0 ≤ p.2 ∧ p.2 < (m : Int) := fun p hp => by
      obtain ⟨e, he, rfl⟩ := List.mem_map.mp hp
      exact ⟨h.i1 e he, h.i2 e he⟩
    have nd := h.nd
    generalize W.map (·.1) = ps at nd h2
    clear e
    induction ps with
    | nil => exact List.nodup_nil
    | cons p ps ih =>
      rw [List.nodup_cons] at nd
      rw [List.map_cons, List.nodup_cons]
      refine ⟨fun z => ?_, ih nd.2 fun q hq => h2 q (List.mem_cons_of_mem _ hq)⟩
      obtain ⟨q, hq, e⟩ := List.mem_map.mp z
      have a := h2 p List.mem_cons_self
      have b := h2 q (List.mem_cons_of_mem _ hq)
      have c1 : p.2.toNat < m := by omega
      have c2 : q.2.toNat < m := by omega
      have d1 : q.1.toNat = p.1.toNat := by
        have x1 : (q.1.toNat * m + q.2.toNat) / m = q.1.toNat := by rw [Nat.mul_comm, Nat.mul_add_div (by omega), Nat.div_eq_of_lt c2, Nat.add_zero]
        have x2 : (p.1.toNat * m + p.2.toNat) / m = p.1.toNat := by rw [Nat.mul_comm, Nat.mul_add_div (by omega), Nat.div_eq_of_lt c1, Nat.add_zero]
        have e' : q.1.toNat * m + q.2.toNat = p.1.toNat * m + p.2.toNat := e
        rw [← x1, e', x2]
      have d2 : q.2.toNat = p.2.toNat := by
        have e' : q.1.toNat * m + q.2.toNat = p.1.toNat * m + p.2.toNat := e
        rw [d1] at e'
        omega
      have : q = p := Prod.ext (by omega) (by omega)
      exact nd.1 (this ▸ hq)
  · intro x hx
    obtain ⟨e, he, rfl⟩ := List.mem_map.mp hx
    have a := h.i1 e he
    have b := h.i2 e he
    have c1 : e.1.1.toNat + 1 ≤ n := by omega
    have c2 : e.1.2.toNat < m := by omega
    have := Nat.mul_le_mul_right m c1
    rw [Nat.succ_mul] at this
    omega
theorem wok_step {n m : Nat} {A B : List (List (Int × Int))} {e : Q3} {W W' : List Q3} {l : Nat} (h : Wok n m W) (ha : 0 ≤ (cellZ A e.1.1 l).1 ∧ (cellZ A e.1.1 l).1 < (n : Int)) (hb : 0 ≤ (cellZ B e.1.2 l).1 ∧ (cellZ B e.1.2 l).1 < (m : Int)) (hs : stepL A B e W l = .inr W') : Wok n m W' ∧ ∃ ex, W' = W ++ ex := by
  unfold stepL at hs
  by_cases h1 : (cellZ A e.1.1 l).2 ≠ (cellZ B e.1.2 l).2
  · rw [if_pos h1] at hs
    cases hs
  rw [if_neg h1] at hs
  by_cases h2 : ((cellZ A e.1.1 l).1, (cellZ B e.1.2 l).1) ∈ W.map (·.1)
  · rw [if_pos h2] at hs
    cases hs
    exact ⟨h, [], (List.append_nil _).symm⟩
  rw [if_neg h2] at hs
  cases hs
  refine ⟨⟨?_, fun x hx => ?_, fun x hx => ?_⟩, _, rfl⟩
  · rw [List.map_append]
    refine List.nodup_append.mpr ⟨h.nd, by simp, fun a ha b hb => ?_⟩
    simp only [List.map_cons, List.map_nil, List.mem_singleton] at hb
    subst hb
    exact fun z => h2 (z ▸ ha)
  · rcases List.mem_append.mp hx with y | y
    · exact h.i1 x y
    · rw [List.mem_singleton.mp y]; exact ha
  · rcases List.mem_append.mp hx with y | y
    · exact h.i2 x y
    · rw [List.mem_singleton.mp y]; exact hb
theorem atI_int {xs : List V} {i : Int} {v : V} (h : 0 ≤ i) (e : xs[i.toNat]? = some v) : atI xs i = some v := by
  have := atI_nat (j := i.toNat) e
  rwa [Int.toNat_of_nonneg h] at this
theorem lets_inl {A B : List (List (Int × Int))} {e : Q3} {W : List Q3} {n : Nat} {r : List Int} (h : lets A B e W n = .inl r) : ∀ j, lets A B e W (n + j) = .inl r
  | 0 => h
  | j + 1 => by show lets A B e W ((n + j) + 1) = _; rw [lets, lets_inl h j]
theorem lets_snoc {A B : List (List (Int × Int))} {e : Q3} {W W' : List Q3} {n : Nat} (h : lets A B e W n = .inr W') : lets A B e W (n + 1) = stepL A B e W' n := by rw [lets, h]
abbrev L5 := List (Addr × Addr × Q3)
def qs (L : L5) : List Q3 := L.map (·.2.2)
def ent (x : Addr × Addr × Q3) : List L2.Key × V := ([Sum.inl x.2.2.1.1, Sum.inl x.2.2.1.2], .ref x.2.1)
structure WH (H : Hp) (p q : Addr) (L : L5) : Prop where
  d : H p = some (.dT (L.map ent))
  l : H q = some (.lst (L.map fun x => V.ref x.1))
  t : ∀ x ∈ L, H x.1 = some (.tup [.int x.2.2.1.1, .int x.2.2.1.2])
  w : ∀ x ∈ L, H x.2.1 = some (.lst (x.2.2.2.map V.int))
  nq : ∀ x ∈ L, x.2.1 ≠ q
theorem WH.same {H H' : Hp} {p q : Addr} {L : L5} (s : Same H H') (h : WH H p q L) : WH H' p q L := ⟨s _ _ h.d, s _ _ h.l, fun x hx => s _ _ (h.t x hx), fun x hx => s _ _ (h.w x hx), h.nq⟩
theorem key_inj {a b c d : Int} (h : ([Sum.inl a, Sum.inl b] : List L2.Key) = [Sum.inl c, Sum.inl d]) : (a, b) = (c, d) := by
  have h1 := List.cons.inj h
  have h2 := List.cons.inj h1.2
  rw [Sum.inl.inj h1.1, Sum.inl.inj h2.1]
theorem val_none : ∀ {L : L5} {a b : Int}, (a, b) ∉ (qs L).map (·.1) → valV (L.map ent) [Sum.inl a, Sum.inl b] = none
  | [], _, _, _ => rfl
  | x :: L, a, b, h => by
    have h1 : (a, b) ≠ x.2.2.1 := fun z => h (by rw [z]; exact List.mem_cons_self)
    have h2 : (a, b) ∉ (qs L).map (·.1) := fun z => h (List.mem_cons_of_mem _ z)
    have ih := val_none h2
    unfold valV at ih ⊢
    rw [List.map_cons, List.find?_cons_of_neg (by
      intro z
      exact h1 (key_inj (of_decide_eq_true z)).symm)]
    exact ih
theorem val_some : ∀ {L : L5}, ((qs L).map (·.1)).Nodup → ∀ x ∈ L, valV (L.map ent) [Sum.inl x.2.2.1.1, Sum.inl x.2.2.1.2] = some (.ref x.2.1)
  | [], _, _, h => by cases h
  | y :: L, nd, x, h => by
    have nd : ((y.2.2.1) :: (qs L).map (·.1)).Nodup := nd
    rw [List.nodup_cons] at nd
    unfold valV
    rcases List.mem_cons.mp h with rfl | h
    · rw [List.map_cons, List.find?_cons_of_pos (by exact decide_eq_true rfl)]
      rfl
    · have ih := val_some nd.2 x h
      unfold valV at ih
      rw [List.map_cons, List.find?_cons_of_neg (by
        intro z
        have e := key_inj (of_decide_eq_true z)
        refine nd.1 ?_
        rw [show y.2.2.1 = x.2.2.1 from e]
        exact List.mem_map.mpr ⟨x.2.2, List.mem_map.mpr ⟨x, h, rfl⟩, rfl⟩)]
      exact ih
theorem cellAt {mk : List V → HO} {H : Hp} {as : List Addr} {c : List (List (Int × Int))} {I : Int} (R : RP mk H as c) (hw : ∀ r ∈ c, (r.length : Int) = I) {s l : Int} (s0 : 0 ≤ s) (s1 : s < (c.length : Int)) (l0 : 0 ≤ l) (l1 : l < I) :
    ∃ (a : Addr) (bs : List Addr) (b : Addr), as[s.toNat]? = some a ∧ H a = some (mk (bs.map V.ref)) ∧ bs[l.toNat]? = some b ∧ H b = some (.tup [.int (cellZ c s l).1, .int (cellZ c s l).2]) ∧ ∃ r ∈ c, cellZ c s l ∈ r := by
  have hs : s.toNat < as.length := by rw [R.len]; omega
  obtain ⟨bs, row, h1, h2, h3, h4⟩ := R.g s.toNat as[s.toNat] (List.getElem?_eq_getElem hs)
  have hm := List.mem_of_getElem? h1
  have hl : l.toNat < bs.length := by have := hw row hm; omega
  obtain ⟨t, u, h5, h6⟩ := h4 l.toNat bs[l.toNat] (List.getElem?_eq_getElem hl)
  have ec : cellZ c s l = (t, u) := by
    unfold cellZ
    rw [List.getD_eq_getElem?_getD, List.getD_eq_getElem?_getD, h1]
    show (row[l.toNat]?).getD (0, 0) = _
    rw [h5]
    rfl
  exact ⟨_, bs, _, List.getElem?_eq_getElem hs, h2, List.getElem?_eq_getElem hl, by rw [ec]; exact h6, row, hm, by rw [ec]; exact List.mem_of_getElem? h5⟩
/-- one pair more -/
theorem WH.add {H H' : Hp} {p q : Addr} {L : L5} (h : WH H p q L) {a b : Int} {wa t : Addr} {w : List Int} (k : ∀ b o, b ≠ p → b ≠ q → H b = some o → H' b = some o) (hd : H' p = some (.dT (L.map ent ++ [([Sum.inl a, Sum.inl b], .ref wa)]))) (hl : H' q = some (.lst ((L.map fun x => V.ref x.1) ++ [.ref t]))) (hw : H' wa = some (.lst (w.map V.int))) (nwq : wa ≠ q) (ht : H' t = some (.tup [.int a, .int b])) : WH H' p q (L ++ [(t, wa, (a, b), w)]) := by
  refine ⟨?_, ?_, fun x hx => ?_, fun x hx => ?_, fun x hx => ?_⟩
  · rw [hd, List.map_append]
    rfl
  · rw [hl, List.map_append]
    rfl
  · rcases List.mem_append.mp hx with y | y
    · have e := h.t x y
      exact k _ _ (fun z => by rw [z, h.d] at e; cases e) (fun z => by rw [z, h.l] at e; cases e) e
    · rw [List.mem_singleton.mp y]
      exact ht
  · rcases List.mem_append.mp hx with y | y
    · have e := h.w x y
      exact k _ _ (fun z => by rw [z, h.d] at e; cases e) (h.nq x y) e
    · rw [List.mem_singleton.mp y]
      exact hw
  · rcases List.mem_append.mp hx with y | y
    · exact h.nq x y
    · rw [List.mem_singleton.mp y]; exact nwq
theorem ints_get {xs : List Int} {j : Nat} {y : V} (h : (xs.map V.int)[j]? = some y) : ∃ t, xs[j]? = some t ∧ y = V.int t := by
  rw [List.getElem?_map] at h
  cases e : xs[j]? with
  | none => rw [e] at h; cases h
  | some t => rw [e] at h; exact ⟨t, rfl, (Option.some.inj h).symm⟩
theorem snoc_get {α : Type} {xs : List α} {x y : α} {j : Nat} (h : (xs ++ [x])[j]? = some y) : (j < xs.length ∧ xs[j]? = some y) ∨ (j = xs.length ∧ y = x) := by
  rcases Nat.lt_or_ge j xs.length with c | c
  · rw [List.getElem?_append_left c] at h
    exact .inl ⟨c, h⟩
  · rw [List.getElem?_append_right c] at h
    have e : j - xs.length = 0 := by
      cases e : j - xs.length with
      | zero => rfl
      | succ m => rw [e] at h; cases h
    rw [e] at h
    cases h
    exact .inr ⟨by omega, rfl⟩
theorem ite_f {c : Bool} {A B : Prop} (h : c = false) (q : B) : if c = true then A else B := by
  rw [if_neg (by rw [h]; exact Bool.false_ne_true)]
  exact q
theorem ite_t {c : Bool} {A B : Prop} (h : c = true) (q : A) : if c = true then A else B := by
  rw [if_pos h]
  exact q
/-! machines told by labels and moves -/
open Bq in
def cells (lab : Nat → List Int) (mv : Nat → Nat → Nat) (l n : Nat) : List (List (Int × Int)) := (List.range n).map fun i => (List.range l).map fun a => ((mv i a : Int), (lab i).getD a 0)
theorem cells_len {lab : Nat → List Int} {mv : Nat → Nat → Nat} {l n : Nat} : (cells lab mv l n).length = n := by unfold cells; rw [List.length_map, List.length_range]
theorem cells_get {lab : Nat → List Int} {mv : Nat → Nat → Nat} {l n i : Nat} (h : i < n) : (cells lab mv l n)[i]? = some ((List.range l).map fun a => ((mv i a : Int), (lab i).getD a 0)) := by
  unfold cells
  rw [List.getElem?_map, List.getElem?_range h]
  rfl
theorem rng_get {α : Type} {g : Nat → α} {n i : Nat} (h : i < n) : ((List.range n).map g)[i]? = some (g i) := by rw [List.getElem?_map, List.getElem?_range h]; rfl
theorem cells_z {lab : Nat → List Int} {mv : Nat → Nat → Nat} {l n i a : Nat} (h : i < n) (ha : a < l) : cellZ (cells lab mv l n) (i : Int) (a : Int) = ((mv i a : Int), (lab i).getD a 0) := by
  unfold cellZ
  rw [Int.toNat_natCast, Int.toNat_natCast, List.getD_eq_getElem?_getD, List.getD_eq_getElem?_getD, cells_get h]
  show (((List.range l).map fun a => ((mv i a : Int), (lab i).getD a 0))[a]?).getD (0, 0) = _
  rw [rng_get ha]
  rfl
theorem cells_congr {lab lab' : Nat → List Int} {mv mv' : Nat → Nat → Nat} {l n : Nat} (h1 : ∀ i, i < n → lab i = lab' i) (h2 : ∀ i a, i < n → a < l → mv i a = mv' i a) : cells lab mv l n = cells lab' mv' l n := by
  unfold cells
  refine List.map_congr_left fun i hi => List.map_congr_left fun a ha => ?_
  rw [h1 i (List.mem_range.mp hi), h2 i a (List.mem_range.mp hi) (List.mem_range.mp ha)]
/-- every machine is one of these -/
theorem cells_of {I O L : Int} {op : List Int} {c : List (List (Int × Int))} (V : Vm I O L op c) : ∃ (lab : Nat → List Int) (mv : Nat → Nat → Nat) (l : Nat), I = (l : Int) ∧ 1 ≤ l ∧ c = cells lab mv l c.length ∧ (∀ i a, i < c.length → a < l → mv i a < c.length) ∧ ∀ i, i < c.length → (lab i).length = l := by
  have hw : ∀ i (h : i < c.length), c[i].length = I.toNat := fun i h => by
    have := V.w c[i] (List.getElem_mem h)
    omega
  have gd : ∀ i (h : i < c.length), c.getD i [] = c[i] := fun i h => by rw [List.getD_eq_getElem?_getD, List.getElem?_eq_getElem h]; rfl
  have gc : ∀ i a (h : i < c.length) (ha : a < I.toNat), (c.getD i []).getD a (0, 0) = c[i][a]'(by rw [hw i h]; exact ha) := fun i a h ha => by
    rw [gd i h, List.getD_eq_getElem?_getD, List.getElem?_eq_getElem (by rw [hw i h]; exact ha)]
    rfl
  have st : ∀ i a (h : i < c.length) (ha : a < I.toNat), 0 ≤ (c[i][a]'(by rw [hw i h]; exact ha)).1 ∧ (c[i][a]'(by rw [hw i h]; exact ha)).1 < (c.length : Int) := fun i a h ha => V.st c[i] (List.getElem_mem h) _ (List.getElem_mem _)
  refine ⟨fun i => (c.getD i []).map (·.2), fun i a => ((c.getD i []).getD a (0, 0)).1.toNat, I.toNat, by have := V.i1; omega, by have := V.i1; omega, ?_, fun i a h ha => ?_, fun i h => by rw [List.length_map, gd i h, hw i h]⟩
  · apply List.ext_getElem?
    intro i
    rcases Nat.lt_or_ge i c.length with h | h
    · rw [cells_get h, List.getElem?_eq_getElem h]
      congr 1
      apply List.ext_getElem?
      intro a
      rcases Nat.lt_or_ge a I.toNat with ha | ha
      · rw [rng_get ha, List.getElem?_eq_getElem (by rw [hw i h]; exact ha)]
        congr 1
        refine Prod.ext ?_ ?_
        · show _ = ((((c.getD i []).getD a (0, 0)).1.toNat : Nat) : Int)
          rw [gc i a h ha, Int.toNat_of_nonneg (st i a h ha).1]
        · show _ = ((c.getD i []).map (·.2)).getD a 0
          rw [gd i h, List.getD_eq_getElem?_getD, List.getElem?_map, List.getElem?_eq_getElem (by rw [hw i h]; exact ha)]
          rfl
      · rw [List.getElem?_eq_none (by rw [hw i h]; exact ha), List.getElem?_eq_none (by rw [List.length_map, List.length_range]; exact ha)]
    · rw [List.getElem?_eq_none h, List.getElem?_eq_none (by rw [cells_len]; exact h)]
  · show ((c.getD i []).getD a (0, 0)).1.toNat < c.length
    rw [gc i a h ha]
    have := st i a h ha
    omega
/-- the smallest machine's cells -/
abbrev qcells (lab : Nat → List Int) (mv : Nat → Nat → Nat) (l : Nat) (f : Nat → Nat) (M : List Nat) : List (List (Int × Int)) := cells (Bq.qlab lab M) (Bq.qmv mv f M) l M.length
theorem vm_q {O L : Int} {op : List Int} {lab : Nat → List Int} {mv : Nat → Nat → Nat} {l n : Nat} {f : Nat → Nat} {M : List Nat} (V : Vm (l : Int) O L op (cells lab mv l n)) (hs : 0 < n) (hll : ∀ i, i < n → (lab i).length = l) (hP : Bq.Pick lab mv l n f) (hM : Bq.OrdQ mv l 0 f M) : Vm (l : Int) O L op (qcells lab mv l f M) := by
  have hM0 : 0 < M.length := (List.getElem?_eq_some_iff.mp (Bq.ord_start hM)).1
  have row : ∀ r ∈ qcells lab mv l f M, ∃ i, i < M.length ∧ r = (List.range l).map fun a => ((Bq.qmv mv f M i a : Int), (Bq.qlab lab M i).getD a 0) := fun r hr => by
    obtain ⟨i, hi, rfl⟩ := List.mem_map.mp hr
    exact ⟨i, List.mem_range.mp hi, rfl⟩
  refine ⟨V.i1, V.o1, V.l0, V.l1, V.op_len, fun z => ?_, fun r hr => ?_, fun r hr p hp => ?_, V.op_in, fun r hr p hp => ?_⟩
  · have := congrArg List.length z
    rw [cells_len] at this
    have : M.length = 0 := this
    omega
  · obtain ⟨i, hi, rfl⟩ := row r hr
    rw [List.length_map, List.length_range]
  · obtain ⟨i, hi, rfl⟩ := row r hr
    obtain ⟨a, ha, rfl⟩ := List.mem_map.mp hp
    have := List.idxOf_lt_length_iff.mpr (Bq.ordq_mem hM (Bq.getD_mem hi) (List.mem_range.mp ha))
    rw [cells_len]
    exact ⟨Int.natCast_nonneg _, by show ((Bq.qmv mv f M i a : Nat) : Int) < _; unfold Bq.qmv; omega⟩
  · obtain ⟨i, hi, rfl⟩ := row r hr
    obtain ⟨a, ha, rfl⟩ := List.mem_map.mp hp
    have hb := (Bq.ordq_fix hP hs hM _ (Bq.getD_mem hi)).1
    have hm : (List.range l).map (fun a => ((mv (M.getD i 0) a : Int), (lab (M.getD i 0)).getD a 0)) ∈ cells lab mv l n := List.mem_map.mpr ⟨_, List.mem_range.mpr hb, rfl⟩
    exact V.em _ hm ((mv (M.getD i 0) a : Int), (lab (M.getD i 0)).getD a 0) (List.mem_map.mpr ⟨a, ha, rfl⟩)
theorem qcells_q {lab : Nat → List Int} {mv : Nat → Nat → Nat} {l : Nat} {f : Nat → Nat} {M : List Nat} (hM : Bq.OrdQ mv l 0 f M) : qcells (Bq.qlab lab M) (Bq.qmv mv f M) l id (List.range M.length) = qcells lab mv l f M := by
  have e0 : ∀ i, i < M.length → (List.range M.length).getD i 0 = i := fun i hi => by rw [List.getD_eq_getElem?_getD, List.getElem?_range hi]; rfl
  show cells _ _ l (List.range M.length).length = cells _ _ l M.length
  rw [List.length_range]
  refine cells_congr (fun i hi => ?_) (fun i a hi ha => ?_)
  · show Bq.qlab lab M ((List.range M.length).getD i 0) = Bq.qlab lab M i
    rw [e0 i hi]
  · show (List.range M.length).idxOf (Bq.qmv mv f M ((List.range M.length).getD i 0) a) = Bq.qmv mv f M i a
    rw [e0 i hi]
    have hlt : Bq.qmv mv f M i a < M.length := List.idxOf_lt_length_iff.mpr (Bq.ordq_mem hM (Bq.getD_mem hi) ha)
    have e := Bq.idx_getD (M := List.range M.length) List.nodup_range (i := Bq.qmv mv f M i a) (by rw [List.length_range]; exact hlt)
    rwa [e0 _ hlt] at e
/-- no word separates a machine and its quotient -/
theorem no_sep {lab : Nat → List Int} {mv : Nat → Nat → Nat} {l n : Nat} {f : Nat → Nat} {M : List Nat} (hs : 0 < n) (hP : Bq.Pick lab mv l n f) (hM : Bq.OrdQ mv l 0 f M) : Res (cells lab mv l n) (qcells lab mv l f M) l none := by
  let good : List Q3 → Prop := fun W => (W.map (·.1)).Nodup ∧ ∀ e ∈ W, ∃ a : Nat, a < n ∧ f a ∈ M ∧ e.1 = ((a : Int), ((M.idxOf (f a) : Nat) : Int))
  have step : ∀ (e : Q3) (W : List Q3) (x : Nat), x < l → (∃ a : Nat, a < n ∧ f a ∈ M ∧ e.1 = ((a : Int), ((M.idxOf (f a) : Nat) : Int))) → good W → ∃ W', stepL (cells lab mv l n) (qcells lab mv l f M) e W x = .inr W' ∧ good W' := by
    rintro e W x hx ⟨a, ha, hfa, he⟩ ⟨g1, g2⟩
    have hib := List.idxOf_lt_length_iff.mpr hfa
    have z1 : cellZ (cells lab mv l n) e.1.1 x = ((mv a x : Int), (lab a).getD x 0) := by rw [he]; exact cells_z ha hx
    have z2 : cellZ (qcells lab mv l f M) e.1.2 x = ((Bq.qmv mv f M (M.idxOf (f a)) x : Int), (Bq.qlab lab M (M.idxOf (f a))).getD x 0) := by rw [he]; exact cells_z hib hx
    have e1 : Bq.qlab lab M (M.idxOf (f a)) = lab a := by
      show lab (M.getD (M.idxOf (f a)) 0) = lab a
      rw [Bq.getD_idx hfa, hP.same ha]
    have e2 : Bq.qmv mv f M (M.idxOf (f a)) x = M.idxOf (f (mv a x)) := by
      show M.idxOf (f (mv (M.getD (M.idxOf (f a)) 0) x)) = _
      rw [Bq.getD_idx hfa, hP.step ha hx]
    rw [e1, e2] at z2
    have hmx := hP.cl a x ha hx
    have hfm : f (mv a x) ∈ M := by
      have := Bq.ordq_mem hM hfa hx
      rwa [hP.step ha hx] at this
    unfold stepL
    rw [z1, z2, if_neg (fun h => h rfl)]
    by_cases c : (((mv a x : Nat) : Int), ((M.idxOf (f (mv a x)) : Nat) : Int)) ∈ W.map (·.1)
    · rw [if_pos c]
      exact ⟨W, rfl, g1, g2⟩
    · rw [if_neg c]
      refine ⟨_, rfl, ?_, fun e' he' => ?_⟩
      · rw [List.map_append]
        exact List.nodup_append.mpr ⟨g1, by simp, fun p hp q hq => by
          simp only [List.map_cons, List.map_nil, List.mem_singleton] at hq
          subst hq
          exact fun z => c (z ▸ hp)⟩
      · rcases List.mem_append.mp he' with z | z
        · exact g2 e' z
        · rw [List.mem_singleton.mp z]
          exact ⟨mv a x, hmx, hfm, rfl⟩
  have letsG : ∀ (e : Q3), (∃ a : Nat, a < n ∧ f a ∈ M ∧ e.1 = ((a : Int), ((M.idxOf (f a) : Nat) : Int))) → ∀ (W : List Q3), good W → ∀ x, x ≤ l → ∃ W', lets (cells lab mv l n) (qcells lab mv l f M) e W x = .inr W' ∧ good W' := by
    intro e he W hW x
    induction x with
    | zero => intro _; exact ⟨W, rfl, hW⟩
    | succ x ih =>
      intro hx
      obtain ⟨W1, h1, g1⟩ := ih (by omega)
      obtain ⟨W2, h2, g2⟩ := step e W1 x (by omega) he g1
      exact ⟨W2, by rw [lets_snoc h1]; exact h2, g2⟩
  have h0 : f 0 ∈ M := List.mem_of_getElem? (Bq.ord_start hM)
  have i0 : M.idxOf (f 0) = 0 := by
    have hl : 0 < M.length := (List.getElem?_eq_some_iff.mp (Bq.ord_start hM)).1
    have := Bq.idx_getD (Bq.ord_nd hM) hl
    rw [List.getD_eq_getElem?_getD, Bq.ord_start hM] at this
    exact this
  have all : ∀ k, ∃ W, GG (cells lab mv l n) (qcells lab mv l f M) l k = .inr W ∧ good W := by
    intro k
    induction k with
    | zero => exact ⟨_, rfl, by simp, fun e he => by rw [List.mem_singleton.mp he]; exact ⟨0, hs, h0, by rw [i0]; rfl⟩⟩
    | succ k ih =>
      obtain ⟨W, h1, g1⟩ := ih
      cases hk : W[k]? with
      | none => exact ⟨W, gg_end h1 (List.getElem?_eq_none_iff.mp hk), g1⟩
      | some e =>
        obtain ⟨W', h2, g2⟩ := letsG e (g1.2 e (List.mem_of_getElem? hk)) W g1 l (Nat.le_refl _)
        exact ⟨W', by rw [gg_inr h1 hk]; exact h2, g2⟩
  obtain ⟨W, h1, g1, g2⟩ := all n
  refine ⟨n, .inr ⟨rfl, W, h1, ?_⟩⟩
  have h3 := nodup_len n (W.map fun e => e.1.1.toNat) ?_ ?_
  · rwa [List.length_map] at h3
  · have e : (W.map fun e : Q3 => e.1.1.toNat) = (W.map (·.1)).map fun p : Int × Int => p.1.toNat := by rw [List.map_map]; rfl
    rw [e]
    have h2 : ∀ p ∈ W.map (·.1), ∃ a : Nat, p = ((a : Int), ((M.idxOf (f a) : Nat) : Int)) := fun p hp => by
      obtain ⟨e, he, rfl⟩ := List.mem_map.mp hp
      obtain ⟨a, _, _, h⟩ := g2 e he
      exact ⟨a, h⟩
    generalize W.map (·.1) = ps at g1 h2
    clear e
    induction ps with
    | nil => exact List.nodup_nil
    | cons p ps ih =>
      rw [List.nodup_cons] at g1
      rw [List.map_cons, List.nodup_cons]
      refine ⟨fun z => ?_, ih g1.2 fun q hq => h2 q (List.mem_cons_of_mem _ hq)⟩
      obtain ⟨q, hq, e⟩ := List.mem_map.mp z
      obtain ⟨a, ea⟩ := h2 p List.mem_cons_self
      obtain ⟨b, eb⟩ := h2 q (List.mem_cons_of_mem _ hq)
      have : b = a := by
        rw [ea, eb] at e
        simpa using e
      exact g1.1 (by rw [ea, ← this, ← eb]; exact hq)
  · intro x hx
    obtain ⟨e, he, rfl⟩ := List.mem_map.mp hx
    obtain ⟨a, ha, _, h⟩ := g2 e he
    rw [h]
    show (a : Int).toNat < n
    omega
def CR (I : Int) (c : List (List (Int × Int))) : Prop := (∀ r ∈ c, (r.length : Int) = I) ∧ ∀ r ∈ c, ∀ p ∈ r, 0 ≤ p.1 ∧ p.1 < (c.length : Int)
def spChkRows (cI : Addr) : Sp := fun vs H Q E => ∃ (r : Addr) (as : List Addr) (c : List (List (Int × Int))) (I : Int), vs = [.ref r, .int I] ∧ LPr H r as c ∧ (¬ CR I c → E (.ref cI) none H) ∧ (CR I c → Q .non H)
theorem cal_chkrows {cI : Addr} (T : Txt K mg cA0 PA0) (eI : ErrC K mg "InvalidMachine" cI) : CalX P w K mg base 1 "check_rows" (spChkRows cI) := by
  obtain ⟨f, fd, F, hm, hb⟩ := T.h_check_rows
  refine ⟨f, fd, _, F.okX sc_check_rows (fun vs H Q E h => ?_) (fun cdv A outer s H vs Q E hr h => ?_), hm, F.kp, hb⟩
  · obtain ⟨r, as, c, I, rfl, _⟩ := h
    rfl
  · obtain ⟨r, as, c, I, rfl, ⟨e1, R⟩, q1, q2⟩ := h
    refine ⟨_, (pss_cons
      (ps_for (passes_of rfl) rfl (pi_list (pv 0)) (pg_name (i := 2) sc_check_rows.nd rfl (.inl rfl)) (pss_one
      (ps_if (pt_cmpR op_ne (pe_callB (call_lenK (K := K) rfl) (by rfl) T.z_len PySem.boot_len (pa_cons (pv 2) pa_nil)) (pv 1) (nomark _)) (pss_one
      (ps_raise rfl (takes_of rfl rfl rfl rfl) (eI.made rfl))) pss_nil)))
      (pss_one
      (ps_for (passes_of rfl) rfl (pi_list (pv 0)) (pg_name (i := 2) sc_check_rows.nd rfl (.inl rfl)) (pss_one
      (ps_for (passes_of rfl) rfl (pi_list (pv 2)) (pg_tup (by rfl) (pgs_cons (pg_name (i := 3) sc_check_rows.nd rfl (.inl rfl)) (pgs_cons (pg_name (i := 4) sc_check_rows.nd rfl (.inl rfl)) pgs_nil))) (pss_one
      (ps_if (PW.pt (pw_or (pt_cmpR op_lt (pv 3) pe_int (nomark _)) (pw_or1 (pt_cmpR op_ge (pv 3) (pe_callB (call_lenK (K := K) rfl) (by rfl) T.z_len PySem.boot_len (pa_cons (pv 0) pa_nil)) (nomark _))))) (pss_one
      (ps_raise rfl (takes_of rfl rfl rfl rfl) (eI.made rfl))) pss_nil))))))), ?_⟩
    have hl2 : (as.map V.ref).length = c.length := by rw [List.length_map, R.len]
    refine ⟨_, rfl, r, rfl, ⟨_, .of e1⟩, for_list (K := K) (a := r) (xs := as.map V.ref) (fun i σ' H' => ∃ v2 v3 v4 : Option V, σ' = [some (.ref r), some (.int I), v2, v3, v4] ∧ H' = H ∧ ∀ q ∈ c.take i, (q.length : Int) = I)
      ⟨_, _, _, rfl, rfl, by simp⟩ (fun i σ' H' _ ⟨_, _, _, _, z, _⟩ => by rw [z]; exact .of e1) ?_ ?_⟩
    · rintro i v σ' H' hi ⟨v2, v3, v4, rfl, rfl, hall⟩
      obtain ⟨a, haa, rfl⟩ := refs_get hi
      obtain ⟨bs, row, hrow, hra, hbl, _⟩ := R.g i a haa
      have hmem := List.mem_of_getElem? hrow
      have hbl2 : (bs.map V.ref).length = row.length := by rw [List.length_map, hbl]
      refine ⟨_, rfl, a, _, rfl, .inl (.of hra), _, rfl, rfl, _, rfl, ite_ne (fun k => ?_) (fun k => ?_)⟩
      · exact q1 fun v => k (by rw [hbl2]; exact v.1 row hmem)
      · rw [hbl2] at k
        refine ⟨_, _, _, rfl, rfl, fun z hz => ?_⟩
        rw [take_get hrow] at hz
        rcases List.mem_append.mp hz with y | y
        · exact hall z y
        · rw [List.mem_singleton.mp y]; exact k
    · rintro σ' H' ⟨v2, v3, v4, rfl, rfl, hall⟩
      rw [hl2, List.take_length] at hall
      refine ⟨_, rfl, r, rfl, ⟨_, .of e1⟩, for_list (K := K) (a := r) (xs := as.map V.ref) (fun i σ' H2 => ∃ v2 v3 v4 : Option V, σ' = [some (.ref r), some (.int I), v2, v3, v4] ∧ H2 = H' ∧ ∀ q ∈ c.take i, ∀ p ∈ q, 0 ≤ p.1 ∧ p.1 < (c.length : Int))
        ⟨_, _, _, rfl, rfl, by simp⟩ (fun i σ' H' _ ⟨_, _, _, _, z, _⟩ => by rw [z]; exact .of e1) ?_ ?_⟩
      · rintro i v σ' H2 hi ⟨v2, v3, v4, rfl, rfl, hall2⟩
        obtain ⟨a, haa, rfl⟩ := refs_get hi
        obtain ⟨bs, row, hrow, hra, hbl, hR⟩ := R.g i a haa
        have hmem := List.mem_of_getElem? hrow
        have hbl2 : (bs.map V.ref).length = row.length := by rw [List.length_map, hbl]
        refine ⟨_, rfl, a, rfl, ⟨_, .of hra⟩, for_list (K := K) (a := a) (xs := bs.map V.ref) (fun j σ' H3 => ∃ v3 v4 : Option V, σ' = [some (.ref r), some (.int I), some (.ref a), v3, v4] ∧ H3 = H2 ∧ ∀ p ∈ row.take j, 0 ≤ p.1 ∧ p.1 < (c.length : Int))
          ⟨_, _, rfl, rfl, by simp⟩ (fun i σ' H' _ ⟨_, _, _, z, _⟩ => by rw [z]; exact .of hra) ?_ ?_⟩
        · rintro j v σ' H3 hj ⟨v3, v4, rfl, rfl, hall3⟩
          obtain ⟨b, hb, rfl⟩ := refs_get hj
          obtain ⟨t, l, he, hbe⟩ := hR j b hb
          refine ⟨b, _, rfl, .of hbe, rfl, _, _, rfl, _, _, rfl, rfl, ?_⟩
          have bad : ¬ (0 ≤ t ∧ t < (c.length : Int)) → E (.ref cI) none H3 := fun k => q1 fun v => k (v.2 row hmem _ (List.mem_of_getElem? he))
          refine ⟨_, rfl, _, _, rfl, rfl, _, rfl, ite2 (fun k => ?_) (fun k => ?_)⟩
          · exact bad (by have := of_decide_eq_true k; omega)
          · have k1 : ¬ t < 0 := fun z => k (decide_eq_true z)
            refine ⟨_, rfl, _, rfl, r, _, rfl, .inl (.of e1), _, _, rfl, rfl, _, rfl, ite2 (fun k => ?_) (fun k => ?_)⟩
            · rw [hl2] at k
              exact bad (by have := of_decide_eq_true k; omega)
            · rw [hl2] at k
              have k2 : ¬ (c.length : Int) ≤ t := fun z => k (decide_eq_true z)
              refine ⟨_, _, rfl, rfl, fun z hz => ?_⟩
              rw [take_get he] at hz
              rcases List.mem_append.mp hz with y | y
              · exact hall3 z y
              · rw [List.mem_singleton.mp y]; exact ⟨by omega, by omega⟩
        · rintro σ' H3 ⟨v3, v4, rfl, rfl, hall3⟩
          rw [hbl2, List.take_length] at hall3
          refine ⟨_, _, _, rfl, rfl, fun z hz => ?_⟩
          rw [take_get hrow] at hz
          rcases List.mem_append.mp hz with y | y
          · exact hall2 z y
          · rw [List.mem_singleton.mp y]; exact hall3
      · rintro σ' H2 ⟨v2, v3, v4, rfl, rfl, hall2⟩
        rw [hl2, List.take_length] at hall2
        exact q2 ⟨hall, hall2⟩
def spChkSaid (cI : Addr) : Sp := fun vs H Q E => ∃ (a : Addr) (xs : List Int) (O : Int), vs = [.ref a, .int O] ∧ H a = some (.lst (xs.map V.int)) ∧ (¬ (∀ z ∈ xs, 0 ≤ z ∧ z < O) → E (.ref cI) none H) ∧ ((∀ z ∈ xs, 0 ≤ z ∧ z < O) → Q .non H)
theorem cal_chksaid {cI : Addr} (T : Txt K mg cA0 PA0) (eI : ErrC K mg "InvalidMachine" cI) : CalX P w K mg base 1 "check_said" (spChkSaid cI) := by
  obtain ⟨f, fd, F, hm, hb⟩ := T.h_check_said
  refine ⟨f, fd, _, F.okX sc_check_said (fun vs H Q E h => ?_) (fun cdv A outer s H vs Q E hr h => ?_), hm, F.kp, hb⟩
  · obtain ⟨a, xs, O, rfl, _⟩ := h
    rfl
  · obtain ⟨a, xs, O, rfl, e1, q1, q2⟩ := h
    refine ⟨_, (pss_one
      (ps_for (passes_of rfl) rfl (pi_list (pv 0)) (pg_name (i := 2) sc_check_said.nd rfl (.inl rfl)) (pss_one
      (ps_if (PW.pt (pw_or (pt_cmpR op_lt (pv 2) pe_int (nomark _)) (pw_or1 (pt_cmpR op_ge (pv 2) (pv 1) (nomark _))))) (pss_one
      (ps_raise rfl (takes_of rfl rfl rfl rfl) (eI.made rfl))) pss_nil)))), ?_⟩
    refine ⟨_, rfl, a, rfl, ⟨_, .of e1⟩, for_list (K := K) (a := a) (xs := xs.map V.int) (fun i σ' H' => ∃ v2 : Option V, σ' = [some (.ref a), some (.int O), v2] ∧ H' = H ∧ ∀ z ∈ xs.take i, 0 ≤ z ∧ z < O)
      ⟨_, rfl, rfl, by simp⟩ (fun i σ' H' _ ⟨_, _, z, _⟩ => by rw [z]; exact .of e1) ?_ ?_⟩
    · rintro i v σ' H' hi ⟨v2, rfl, rfl, hall⟩
      obtain ⟨z, hz, rfl⟩ := ints_get hi
      have hmem := List.mem_of_getElem? hz
      refine ⟨_, rfl, _, _, rfl, rfl, _, rfl, ite2 (fun k => ?_) (fun k => ?_)⟩
      · exact q1 fun v => by have := v z hmem; have := of_decide_eq_true k; omega
      · have k1 : ¬ z < 0 := fun y => k (decide_eq_true y)
        refine ⟨_, rfl, _, rfl, _, _, rfl, rfl, _, rfl, ite2 (fun k => ?_) (fun k => ?_)⟩
        · exact q1 fun v => by have := v z hmem; have := of_decide_eq_true k; omega
        · have k2 : ¬ O ≤ z := fun y => k (decide_eq_true y)
          refine ⟨_, rfl, rfl, fun y hy => ?_⟩
          rw [take_get hz] at hy
          rcases List.mem_append.mp hy with u | u
          · exact hall y u
          · rw [List.mem_singleton.mp u]; exact ⟨by omega, by omega⟩
    · rintro σ' H' ⟨v2, rfl, rfl, hall⟩
      rw [List.length_map, List.take_length] at hall
      exact q2 hall
/-- two clauses: the outer walk over a list -/
theorem lc2_list {a : Addr} {xs : List V} {g g1 : TG} {tt tt1 : TT} {wi1 : TI} {te : TE} {vs vs1 : List Nat} {σ : L2.St} {H1 : Hp} {D : Addr} {Qd : Hp → Prop} (Pv : Nat → Hp → Prop) (h0 : Pv 0 (upd H1 D (.lst []))) (hl : ∀ i H, i ≤ xs.length → Pv i H → SqL K H a xs)
    (hs : ∀ i x H, xs[i]? = some x → Pv i H → g x (wipe σ vs) H fun σ2 H2 => wipe σ2 vs = wipe σ vs ∧ tt σ2 H2 fun b H3 => if b = true then wi1 σ2 H3 fun J1 H4 => ∃ W1 : Nat → Nat → Hp → Prop, (∃ m, W1 0 m H4) ∧ ∀ j k H, W1 j k H →
      (J1.stop j H ∧ Pv (i + 1) H) ∨ (J1.go j H ∧ ∃ Nx1 : Hp → Prop, (∀ H', Nx1 H' → ∃ k', k' < k ∧ W1 (j + 1) k' H') ∧ ∀ x H', J1.yld j H x H' → g1 x (wipe σ2 vs1) H' fun σ3 H5 => wipe σ3 vs1 = wipe σ2 vs1 ∧ tt1 σ3 H5 fun b H6 =>
        if b = true then te σ3 H6 fun y H7 => ∃ acc, H7 D = some (.lst acc) ∧ acc.length < sizeLine ∧ Nx1 (upd H7 D (.lst (acc ++ [y]))) else Nx1 H6) else Pv (i + 1) H3) (hd : ∀ H, Pv xs.length H → Qd H) :
    ∃ W : Nat → Nat → Hp → Prop, (∃ m, W 0 m (upd H1 D (.lst []))) ∧ ∀ i m H, W i m H →
      ((Itl K a).stop i H ∧ Qd H) ∨ ((Itl K a).go i H ∧ ∃ Nx : Hp → Prop, (∀ H', Nx H' → ∃ m', m' < m ∧ W (i + 1) m' H') ∧ ∀ x H', (Itl K a).yld i H x H' → g x (wipe σ vs) H' fun σ2 H2 => wipe σ2 vs = wipe σ vs ∧ tt σ2 H2 fun b H3 =>
        if b = true then wi1 σ2 H3 fun J1 H4 => ∃ W1 : Nat → Nat → Hp → Prop, (∃ m, W1 0 m H4) ∧ ∀ j k H, W1 j k H →
          (J1.stop j H ∧ Nx H) ∨ (J1.go j H ∧ ∃ Nx1 : Hp → Prop, (∀ H', Nx1 H' → ∃ k', k' < k ∧ W1 (j + 1) k' H') ∧ ∀ x H', J1.yld j H x H' → g1 x (wipe σ2 vs1) H' fun σ3 H5 => wipe σ3 vs1 = wipe σ2 vs1 ∧ tt1 σ3 H5 fun b H6 =>
            if b = true then te σ3 H6 fun y H7 => ∃ acc, H7 D = some (.lst acc) ∧ acc.length < sizeLine ∧ Nx1 (upd H7 D (.lst (acc ++ [y]))) else Nx1 H6) else Nx H3) := by
  refine ⟨fun i m H => m = xs.length - i ∧ i ≤ xs.length ∧ Pv i H, ⟨xs.length, by simp, Nat.zero_le _, h0⟩, ?_⟩
  rintro i m H ⟨rfl, hi, p⟩
  have q := hl i H hi p
  rcases Nat.lt_or_ge i xs.length with c | c
  · exact .inr ⟨⟨xs, xs[i], q, List.getElem?_eq_getElem c⟩, Pv (i + 1), fun H' p' => ⟨xs.length - (i + 1), by omega, rfl, c, p'⟩, fun x H' y => by rw [y.1]; exact hs i x H (y.2 xs q) p⟩
  · have e : i = xs.length := Nat.le_antisymm hi c
    rw [e] at p
    exact .inl ⟨⟨xs, q, c⟩, hd H p⟩
/-- .. the inner walk over a list -/
theorem lc2_inL {b : Addr} {ys : List V} {g1 : TG} {tt1 : TT} {te : TE} {vs1 : List Nat} {σ2 : L2.St} {H4 : Hp} {D : Addr} {Nx : Hp → Prop} (Pv : Nat → Hp → Prop) (h0 : Pv 0 H4) (hl : ∀ j H, j ≤ ys.length → Pv j H → SqL K H b ys)
    (hs : ∀ j x H, ys[j]? = some x → Pv j H → g1 x (wipe σ2 vs1) H fun σ3 H5 => wipe σ3 vs1 = wipe σ2 vs1 ∧ tt1 σ3 H5 fun c H6 => if c = true then te σ3 H6 fun y H7 => ∃ acc, H7 D = some (.lst acc) ∧ acc.length < sizeLine ∧ Pv (j + 1) (upd H7 D (.lst (acc ++ [y]))) else Pv (j + 1) H6)
    (hd : ∀ H, Pv ys.length H → Nx H) :
    ∃ W1 : Nat → Nat → Hp → Prop, (∃ m, W1 0 m H4) ∧ ∀ j k H, W1 j k H →
      ((Itl K b).stop j H ∧ Nx H) ∨ ((Itl K b).go j H ∧ ∃ Nx1 : Hp → Prop, (∀ H', Nx1 H' → ∃ k', k' < k ∧ W1 (j + 1) k' H') ∧ ∀ x H', (Itl K b).yld j H x H' → g1 x (wipe σ2 vs1) H' fun σ3 H5 => wipe σ3 vs1 = wipe σ2 vs1 ∧ tt1 σ3 H5 fun c H6 =>
        if c = true then te σ3 H6 fun y H7 => ∃ acc, H7 D = some (.lst acc) ∧ acc.length < sizeLine ∧ Nx1 (upd H7 D (.lst (acc ++ [y]))) else Nx1 H6) := by
  refine ⟨fun j m H => m = ys.length - j ∧ j ≤ ys.length ∧ Pv j H, ⟨ys.length, by simp, Nat.zero_le _, h0⟩, ?_⟩
  rintro j m H ⟨rfl, hj, p⟩
  have q := hl j H hj p
  rcases Nat.lt_or_ge j ys.length with c | c
  · exact .inr ⟨⟨ys, ys[j], q, List.getElem?_eq_getElem c⟩, Pv (j + 1), fun H' p' => ⟨ys.length - (j + 1), by omega, rfl, c, p'⟩, fun x H' y => by rw [y.1]; exact hs j x H (y.2 ys q) p⟩
  · have e : j = ys.length := Nat.le_antisymm hj c
    rw [e] at p
    exact .inl ⟨⟨ys, q, c⟩, hd H p⟩
theorem sq_nx {H : Hp} {x a C dx : Addr} {f : List (Str × V)} {xs : List V} (hx : H x = some (.ins C dx f)) (h : SeqV H a xs) : a ≠ x := fun z => by
  rw [z] at h
  rcases h with h | h
  · rw [hx] at h
    cases h
  · rw [hx] at h
    cases h
theorem tupq {H : Hp} {p : Addr} {ns : List Int} {Q : VK} (h : SeqV H p (ns.map V.int)) (q : ∀ (H' : Hp) (t : Addr), Same H H' → TupI H' t ns → Q (.ref t) H') : rTupOf K [.ref p] H Q := by
  rcases h with h | h
  · exact ⟨p, _, rfl, .inl ⟨.of h, fun l hl => q _ l (same_new hl) upd_same⟩⟩
  · exact ⟨p, _, rfl, .inr ⟨.of h, q H p (Same.refl _) h⟩⟩
theorem RP.kp {mk : List V → HO} {H H' : Hp} {x : Addr} {as : List Addr} {c : List (List (Int × Int))} (hx : ∀ ys, H x ≠ some (mk ys) ∧ H x ≠ some (.tup ys)) (k : Kp x H H') (h : RP mk H as c) : RP mk H' as c := ⟨h.len, fun i a e => by
  obtain ⟨bs, row, h1, h2, h3, h4⟩ := h.g i a e
  refine ⟨bs, row, h1, k _ _ (fun z => (hx _).1 (by rw [← z]; exact h2)) h2, h3, fun j b hb => ?_⟩
  obtain ⟨t, l, h5, h6⟩ := h4 j b hb
  exact ⟨t, l, h5, k _ _ (fun z => (hx _).2 (by rw [← z]; exact h6)) h6⟩⟩
theorem LPr.kp {H H' : Hp} {x r C dx : Addr} {f : List (Str × V)} {as : List Addr} {c : List (List (Int × Int))} (hx : H x = some (.ins C dx f)) (k : Kp x H H') (h : LPr H r as c) : LPr H' r as c :=
  ⟨k _ _ (fun z => by have := h.1; rw [z, hx] at this; cases this) h.1, My.RP.kp (fun ys => ⟨fun z => (by rw [hx] at z; cases z), fun z => by rw [hx] at z; (cases z)⟩) k h.2⟩
theorem RP.snoc {mk : List V → HO} {H : Hp} {as : List Addr} {c : List (List (Int × Int))} {a : Addr} {bs : List Addr} {row : List (Int × Int)} (h : RP mk H as c) (ha : H a = some (mk (bs.map V.ref))) (hl : bs.length = row.length) (hb : ∀ (j : Nat) (b : Addr), bs[j]? = some b → ∃ t l, row[j]? = some (t, l) ∧ H b = some (.tup [.int t, .int l])) : RP mk H (as ++ [a]) (c ++ [row]) := by
  refine ⟨by rw [List.length_append, List.length_append, h.len]; rfl, fun i a' e => ?_⟩
  rcases snoc_get e with ⟨h0, h1⟩ | ⟨h1, h2⟩
  · obtain ⟨bs', row', g1, g2, g3, g4⟩ := h.g i a' h1
    exact ⟨bs', row', by rw [List.getElem?_append_left (by have := h.len; omega)]; exact g1, g2, g3, g4⟩
  · subst h2
    exact ⟨bs, row, by rw [List.getElem?_append_right (by have := h.len; omega), show i - c.length = 0 by have := h.len; omega]; rfl, ha, hl, hb⟩
theorem RP.nil {mk : List V → HO} {H : Hp} : RP mk H [] [] := ⟨rfl, fun i a e => by (cases e)⟩
theorem tup_upd {H : Hp} {D : Addr} {ys : List V} {o : HO} (h : H D = some (.lst ys)) : ∀ (b : Addr) (xs : List V), H b = some (.tup xs) → (upd H D o) b = some (.tup xs) := fun b xs hb => by
  rw [upd_ne (fun z => by rw [z, h] at hb; cases hb)]
  exact hb
def sds (c : List (List (Int × Int))) : List Int := (c.map fun r => r.map fun p => p.2).flatten
theorem sds_snoc (c : List (List (Int × Int))) (r : List (Int × Int)) : sds (c ++ [r]) = sds c ++ r.map fun p => p.2 := by
  unfold sds
  rw [List.map_append, List.flatten_append]
  simp
theorem sds_len : ∀ c : List (List (Int × Int)), (∀ r ∈ c, r.length ≤ 100) → (sds c).length ≤ 100 * c.length
  | [], _ => by simp [sds]
  | r :: rs, h => by
    have e : sds (r :: rs) = (r.map fun p => p.2) ++ sds rs := rfl
    have h1 := h r List.mem_cons_self
    have h2 := sds_len rs fun x hx => h x (List.mem_cons_of_mem _ hx)
    rw [e, List.length_append, List.length_map, List.length_cons]
    omega
theorem sds_mem {c : List (List (Int × Int))} {z : Int} : z ∈ sds c ↔ ∃ r ∈ c, ∃ p ∈ r, p.2 = z := by
  unfold sds
  rw [List.mem_flatten]
  constructor
  · rintro ⟨l, hl, hz⟩
    obtain ⟨r, hr, rfl⟩ := List.mem_map.mp hl
    obtain ⟨p, hp, rfl⟩ := List.mem_map.mp hz
    exact ⟨r, hr, p, hp, rfl⟩
  · rintro ⟨r, hr, p, hp, rfl⟩
    exact ⟨_, List.mem_map.mpr ⟨r, hr, rfl⟩, List.mem_map.mpr ⟨p, hp, rfl⟩⟩
def spInitM (C cI : Addr) : Sp := fun vs H Q E => ∃ (x a r dx : Addr) (I O L : Int) (op : List Int) (as : List Addr) (c : List (List (Int × Int))), vs = [.ref x, .int I, .int O, .int L, .ref a, .ref r] ∧ H x = some (.ins C dx []) ∧ SeqV H a (op.map V.int) ∧ LPr H r as c ∧
  op.length ≤ 1000 ∧ c.length ≤ 100 ∧ (∀ r ∈ c, r.length ≤ 100) ∧ (¬ Vm I O L op c → ∀ H', Same H H' → E (.ref cI) none H') ∧ (Vm I O L op c → ∀ H', Kp x H H' → MchAt C H' x I O L op c → Q .non H')
theorem ok_initM {cI C fI : Addr} {fdI : FuncData} {tk1 tk2 : Tok} (T : Txt K mg cA0 PA0) (eI : ErrC K mg "InvalidMachine" cI) (PC : MchC K C) (gLL : mg "LEAST_LEAD" = some (.int (-3) tk1)) (gGL : mg "GREATEST_LEAD" = some (.int 2 tk2)) (F : L2.Fun K "__init__" "Machine.__init__" s_Machine_init fI fdI) :
    FnOk P w K mg base (L2.CX P w) 2 fI fdI ["self", "inputs", "outputs", "lead", "opening", "rows"] (spInitM C cI) := by
  have X_check_rows : CalX P w K mg base 1 "check_rows" (spChkRows cI) := cal_chkrows T eI
  have X_check_said : CalX P w K mg base 1 "check_said" (spChkSaid cI) := cal_chksaid T eI
  refine F.okX sc_Machine_init (fun vs H Q E h => ?_) (fun cdv A outer s H vs Q E hr h => ?_)
  · obtain ⟨x, a, r, dx, I, O, L, op, as, c, rfl, _⟩ := h
    rfl
  · obtain ⟨x, a, r, dx, I, O, L, op, as, c, rfl, hx, ha, hL, l0, l1, l2, q1, q2⟩ := h
    refine ⟨_, (pss_cons
      (ps_if (PW.pt (pw_or (pt_cmpR op_lt (pv 1) pe_int (nomark _)) (pw_or1 (pt_cmpR op_lt (pv 2) pe_int (nomark _))))) (pss_one
      (ps_raise rfl (takes_of rfl rfl rfl rfl) (eI.made rfl))) pss_nil)
      (pss_cons
      (ps_if (PW.pt (pw_or (pt_cmpR op_lt (pv 3) (pe_glob (v := .int (-3)) (by rfl) gLL ⟨_, rfl⟩) (nomark _)) (pw_or1 (pt_cmpR op_gt (pv 3) (pe_glob (v := .int 2) (by rfl) gGL ⟨_, rfl⟩) (nomark _))))) (pss_one
      (ps_raise rfl (takes_of rfl rfl rfl rfl) (eI.made rfl))) pss_nil)
      (pss_cons
      (ps_if (pt_cmpR op_ne (pe_callB (call_lenK (K := K) rfl) (by rfl) T.z_len PySem.boot_len (pa_cons (pv 4) pa_nil)) (pe_callB (call_max2 rfl) (by rfl) T.z_max (by decide +kernel) (pa_cons pe_int (pa_cons (pe_un un_neg (pv 3)) pa_nil))) (nomark _)) (pss_one
      (ps_raise rfl (takes_of rfl rfl rfl rfl) (eI.made rfl))) pss_nil)
      (pss_cons
      (ps_if (pt_cmpR op_eq (pe_callB (call_lenK (K := K) rfl) (by rfl) T.z_len PySem.boot_len (pa_cons (pv 5) pa_nil)) pe_int (nomark _)) (pss_one
      (ps_raise rfl (takes_of rfl rfl rfl rfl) (eI.made rfl))) pss_nil)
      (pss_cons
      (ps_expr (pe_cx X_check_rows hr (by decide) (takes_of rfl rfl rfl rfl) (by rfl) (pa_cons (pv 5) (pa_cons (pv 1) pa_nil))))
      (pss_cons
      (ps_expr (pe_cx X_check_said hr (by decide) (takes_of rfl rfl rfl rfl) (by rfl) (pa_cons (pe_op op_cat (pe_callTy (call_list_ofK (K := K) rfl) (by rfl) T.z_list (by decide +kernel) (pa_cons (pv 4) pa_nil)) (pe_lc2 (own := [("row", 6), ("_", 7), ("letter", 8)]) (vs1 := [7, 8]) (g := gName 6) (g1 := gTup K 2 (gCons (gName 7) (gCons (gName 8) gNil))) (tt := tYes) (tt1 := tYes) rfl sc_Machine_init.nd (pi_list (pv 5)) (blkOk_by (N := N_Machine_init) (sc := defScope s_Machine_init) (by decide +kernel)) (by decide) (fun _ _ _ _ _ => (pg_name (i := 6) sc_Machine_init.nd rfl (Or.inl rfl))) (fun _ _ _ _ _ => pts_nil) (fun _ _ _ _ _ => (pi_listK (K := K) rfl (pv 6))) (fun _ _ _ _ _ => (pg_tup (by rfl) (pgs_cons (pg_name (i := 7) sc_Machine_init.nd rfl (Or.inl rfl)) (pgs_cons (pg_name (i := 8) sc_Machine_init.nd rfl (Or.inl rfl)) pgs_nil)))) (fun _ _ _ _ _ => pts_nil) (fun _ _ _ _ _ => (pv 8)))) (pa_cons (pv 2) pa_nil))))
      (pss_cons
      (ps_fld (pv 0) (pv 1) rfl)
      (pss_cons
      (ps_fld (pv 0) (pv 2) rfl)
      (pss_cons
      (ps_fld (pv 0) (pv 3) rfl)
      (pss_cons
      (ps_fld (pv 0) (pe_callTy (call_tuple_ofK (K := K) rfl) (by rfl) T.z_tuple (by decide +kernel) (pa_cons (pv 4) pa_nil)) rfl)
      (pss_one
      (ps_fld (pv 0) (pe_callTy (call_tuple_ofK (K := K) rfl) (by rfl) T.z_tuple (by decide +kernel) (pa_cons (pe_lc (own := [("row", 6)]) (g := gName 6) (tt := tYes) rfl sc_Machine_init.nd (pi_list (pv 5)) (blkOk_by (N := N_Machine_init) (sc := defScope s_Machine_init) (by decide +kernel)) (fun _ _ _ _ _ => (pg_name (i := 6) sc_Machine_init.nd rfl (by first | exact Or.inl rfl | exact Or.inr rfl))) (fun _ _ _ _ _ => pts_nil) (fun _ _ _ _ _ => (pe_callTy (call_tuple_ofK (K := K) rfl) (by rfl) T.z_tuple (by decide +kernel) (pa_cons (pe_lc (own := [("target", 9), ("letter", 8)]) (g := gTup K 2 (gCons (gName 9) (gCons (gName 8) gNil))) (tt := tYes) rfl sc_Machine_init.nd (pi_listK (K := K) rfl (pv 6)) (blkOk_by (N := N_Machine_init) (sc := stS (defScope s_Machine_init) 10 (defBody s_Machine_init)) (by decide +kernel)) (fun _ _ _ _ _ => (pg_tup (by rfl) (pgs_cons (pg_name (i := 9) sc_Machine_init.nd rfl (Or.inl rfl)) (pgs_cons (pg_name (i := 8) sc_Machine_init.nd rfl (Or.inl rfl)) pgs_nil)))) (fun _ _ _ _ _ => pts_nil) (fun _ _ _ _ _ => (pe_tup (pa_cons (pv 9) (pa_cons (pv 8) pa_nil))))) pa_nil)))) pa_nil)) rfl)))))))))))), ?_⟩
    have hl2 : (as.map V.ref).length = c.length := by rw [List.length_map, hL.2.len]
    refine ⟨_, rfl, _, _, rfl, rfl, _, rfl, ite2 (fun k => q1 (fun v => by have := v.i1; have := of_decide_eq_true k; omega) H (Same.refl H)) (fun k => ?_)⟩
    have k1 : ¬ I < 1 := fun y => k (decide_eq_true y)
    refine ⟨_, rfl, _, _, rfl, rfl, _, rfl, ite2 (fun k => q1 (fun v => by have := v.o1; have := of_decide_eq_true k; omega) H (Same.refl H)) (fun k => ?_)⟩
    have k2 : ¬ O < 1 := fun y => k (decide_eq_true y)
    refine ⟨_, rfl, _, _, rfl, rfl, _, rfl, ite2 (fun k => q1 (fun v => by have := v.l0; have := of_decide_eq_true k; omega) H (Same.refl H)) (fun k => ?_)⟩
    have k3 : ¬ L < -3 := fun y => k (decide_eq_true y)
    refine ⟨_, rfl, _, _, rfl, rfl, _, rfl, ite2 (fun k => q1 (fun v => by have := v.l1; have := of_decide_eq_true k; omega) H (Same.refl H)) (fun k => ?_)⟩
    have k4 : ¬ 2 < L := fun y => k (decide_eq_true y)
    have emx : (if -L > 0 then -L else 0) = max 0 (-L) := by split <;> omega
    refine ⟨_, rfl, a, _, rfl, ha.sq, _, rfl, _, rfl, _, _, rfl, rfl, _, rfl, ?_⟩
    rw [emx, List.length_map]
    refine ite_ne (fun k => q1 (fun v => k v.op_len) H (Same.refl H)) (fun k5 => ?_)
    refine ⟨_, rfl, r, _, rfl, .inl (.of hL.1), rfl, _, rfl, ?_⟩
    rw [hl2]
    refine ite_eq (fun k => q1 (fun v => v.ne (List.length_eq_zero_iff.mp (by omega))) H (Same.refl H)) (fun k6 => ?_)
    refine ⟨_, rfl, _, rfl, r, as, c, I, rfl, hL, fun k => q1 (fun v => k ⟨v.w, v.st⟩) H (Same.refl H), fun hCR => ?_⟩
    refine ⟨_, rfl, a, _, rfl, ha.sq, fun p1 n1 => ?_⟩
    have s1 := same_new (o := .lst (op.map V.int)) n1
    have ep1 := upd_same (H := H) (a := p1) (o := .lst (op.map V.int))
    generalize upd H p1 (.lst (op.map V.int)) = H1 at s1 ep1 ⊢
    refine ⟨_, rfl, r, rfl, ⟨_, .of (s1 _ _ hL.1)⟩, fun D hD => lc2_list (K := K) (a := r) (xs := as.map V.ref) (fun i H' => Same H1 H' ∧ H' D = some (.lst ((sds (c.take i)).map V.int))) ⟨same_new hD, upd_same⟩ (fun i H' _ ⟨z, _⟩ => .of (z _ _ (s1 _ _ hL.1))) ?_ ?_⟩
    · rintro i v H4 hi ⟨s4, e4⟩
      obtain ⟨ra, hra, rfl⟩ := refs_get hi
      obtain ⟨bs, row, hrow, hae, hbl, hR⟩ := hL.2.g i ra hra
      have hi := (List.getElem?_eq_some_iff.mp hrow).1
      have hrl := l2 row (List.mem_of_getElem? hrow)
      have hsl := sds_len (c.take i) fun q hq => l2 q (List.mem_of_mem_take hq)
      rw [List.length_take] at hsl
      have hbl2 : (bs.map V.ref).length = row.length := by rw [List.length_map, hbl]
      refine ⟨rfl, _, rfl, ra, rfl, ⟨_, .of (s4 _ _ (s1 _ _ hae))⟩, ?_⟩
      refine lc2_inL (K := K) (b := ra) (ys := bs.map V.ref) (fun j H5 => Same H1 H5 ∧ H5 D = some (.lst ((sds (c.take i) ++ (row.take j).map fun p => p.2).map V.int))) ⟨s4, by rw [List.take_zero, List.map_nil, List.append_nil]; exact e4⟩ (fun j H5 _ ⟨z, _⟩ => .of (z _ _ (s1 _ _ hae))) ?_ ?_
      · rintro j y H5 hj ⟨s5, e5⟩
        obtain ⟨b, hb, rfl⟩ := refs_get hj
        obtain ⟨t, l, hp, hbe⟩ := hR j b hb
        have hjl := (List.getElem?_eq_some_iff.mp hp).1
        refine ⟨b, _, rfl, .of (s5 _ _ (s1 _ _ hbe)), rfl, _, _, rfl, _, _, rfl, rfl, rfl, _, rfl, _, e5, ?_, fun d u hd => ?_, ?_⟩
        · rw [List.length_map, List.length_append, List.length_map, List.length_take]
          exact Nat.lt_of_le_of_lt (show _ ≤ 20000 by omega) (by decide)
        · rw [upd_ne (ne_of_none hd hD)]
          exact s5 _ _ hd
        · rw [upd_same, take_get hp, List.map_append (l₂ := [(t, l)]), ← List.append_assoc, List.map_append (l₂ := List.map _ [(t, l)])]
          rfl
      · rintro H5 ⟨s5, e5⟩
        rw [hbl2, List.take_length] at e5
        exact ⟨s5, by rw [take_get hrow, sds_snoc]; exact e5⟩
    rintro H4 ⟨s4, e4⟩
    rw [hl2, List.take_length] at e4
    have hsl := sds_len c l2
    have s04 := s1.trans s4
    have np1D : p1 ≠ D := fun z => by rw [← z, ep1] at hD; cases hD
    refine ⟨p1, D, _, _, rfl, rfl, s4 _ _ ep1, e4, by rw [List.length_map, List.length_map]; exact Nat.le_trans (show _ ≤ 20000 by omega) (by decide), fun p3 n3 => ?_⟩
    rw [← List.map_append]
    have s5 := s04.trans (same_new (o := .lst ((op ++ sds c).map V.int)) n3)
    have e5 := upd_same (H := H4) (a := p3) (o := .lst ((op ++ sds c).map V.int))
    generalize upd H4 p3 (.lst ((op ++ sds c).map V.int)) = H5 at s5 e5 ⊢
    refine ⟨_, rfl, p3, op ++ sds c, O, rfl, e5, fun k => q1 (fun v => k fun z hz => ?_) H5 s5, fun hCS => ?_⟩
    · rcases List.mem_append.mp hz with y | y
      · exact v.op_in z y
      · obtain ⟨r', hr', p, hp, rfl⟩ := sds_mem.mp y
        exact v.em r' hr' p hp
    have hV : Vm I O L op c := ⟨by omega, by omega, by omega, by omega, k5, fun z => k6 (by rw [z]; rfl), hCR.1, hCR.2, fun z hz => hCS z (List.mem_append_left _ hz), fun r' hr' p hp => hCS _ (List.mem_append_right _ (sds_mem.mpr ⟨r', hr', p, hp, rfl⟩))⟩
    have hx5 := s5 _ _ hx
    have ha5 := ha.same s5
    have hL5 := hL.same s5
    have k05 : Kp x H H5 := Same.kp s5
    clear s1 ep1 s4 e4 s04 e5 n1 n3 hD hsl np1D
    -- the fields
    refine ⟨_, rfl, _, rfl, x, C, dx, [], rfl, hx5, PC.cl, PC.nI, by decide, ?_⟩
    have kA : Kp x H5 (upd H5 x (.ins C dx (putF "inputs" (.int I) []))) := Kp.own
    have xA := upd_same (H := H5) (a := x) (o := .ins C dx (putF "inputs" (.int I) []))
    generalize upd H5 x (.ins C dx (putF "inputs" (.int I) [])) = HA at kA xA ⊢
    refine ⟨_, rfl, _, rfl, x, C, dx, _, rfl, xA, PC.cl, PC.nO, pl_lt (pl_next pl_0) (by decide), ?_⟩
    have kB : Kp x HA (upd HA x (.ins C dx (putF "outputs" (.int O) (putF "inputs" (.int I) [])))) := Kp.own
    have xB := upd_same (H := HA) (a := x) (o := .ins C dx (putF "outputs" (.int O) (putF "inputs" (.int I) [])))
    generalize upd HA x (.ins C dx (putF "outputs" (.int O) (putF "inputs" (.int I) []))) = HB at kB xB ⊢
    refine ⟨_, rfl, _, rfl, x, C, dx, _, rfl, xB, PC.cl, PC.nL, pl_lt (pl_next (pl_next pl_0)) (by decide), ?_⟩
    have kC : Kp x HB (upd HB x (.ins C dx (putF "lead" (.int L) (putF "outputs" (.int O) (putF "inputs" (.int I) []))))) := Kp.own
    have xC := upd_same (H := HB) (a := x) (o := .ins C dx (putF "lead" (.int L) (putF "outputs" (.int O) (putF "inputs" (.int I) []))))
    generalize upd HB x (.ins C dx (putF "lead" (.int L) (putF "outputs" (.int O) (putF "inputs" (.int I) [])))) = HC at kC xC ⊢
    have k5C : Kp x H5 HC := (kA.trans kB).trans kC
    have nax : a ≠ x := sq_nx hx5 ha5
    have haC : SeqV HC a (op.map V.int) := ha5.elim (fun z => .inl (k5C _ _ nax z)) (fun z => .inr (k5C _ _ nax z))
    clear kA xA kB xB kC
    refine ⟨_, rfl, ?_⟩
    walk_at "nl"
    refine tupq haC fun Ha ot sa ta => ?_
    have xa := sa _ _ xC
    have nxo : x ≠ ot := fun z => by rw [TupI, ← z, xa] at ta; cases ta
    refine ⟨_, rfl, x, C, dx, _, rfl, xa, PC.cl, PC.no, pl_lt (pl_next (pl_next (pl_next pl_0))) (by decide), ?_⟩
    have k0C : Kp x H (upd Ha x (.ins C dx (putF "opening" (.ref ot) (putF "lead" (.int L) (putF "outputs" (.int O) (putF "inputs" (.int I) [])))))) := fun b u nb hb => by
      rw [upd_ne nb]
      exact sa _ _ (k5C _ _ nb (k05 _ _ nb hb))
    have x3 := upd_same (H := Ha) (a := x) (o := .ins C dx (putF "opening" (.ref ot) (putF "lead" (.int L) (putF "outputs" (.int O) (putF "inputs" (.int I) [])))))
    have t3 : TupI (upd Ha x (.ins C dx (putF "opening" (.ref ot) (putF "lead" (.int L) (putF "outputs" (.int O) (putF "inputs" (.int I) [])))))) ot op := by
      show _ = _
      rw [upd_ne nxo.symm]
      exact ta
    generalize upd Ha x (.ins C dx (putF "opening" (.ref ot) (putF "lead" (.int L) (putF "outputs" (.int O) (putF "inputs" (.int I) []))))) = H3 at k0C x3 t3 ⊢
    have hL3 := My.LPr.kp hx k0C hL
    clear sa ta xa haC xC k5C hx5 ha5 hL5 k05 s5
    refine ⟨_, rfl, r, rfl, ⟨_, .of hL3.1⟩, fun D hD => lc_list (K := K) (a := r) (xs := as.map V.ref) (fun i H4 => ∃ as2 : List Addr, Same H3 H4 ∧ H4 D = some (.lst (as2.map V.ref)) ∧ RP .tup H4 as2 (c.take i))
      ⟨[], same_new hD, upd_same, My.RP.nil⟩ (fun i H' _ ⟨_, z, _⟩ => .of (z _ _ hL3.1)) ?_ ?_⟩
    · rintro i v H4 hi ⟨as2, s4, e4, R4⟩
      obtain ⟨ra, hra, rfl⟩ := refs_get hi
      obtain ⟨bs, row, hrow, hae, hbl, hR⟩ := hL3.2.g i ra hra
      have hil := (List.getElem?_eq_some_iff.mp hrow).1
      have hrl := l2 row (List.mem_of_getElem? hrow)
      have hbl2 : (bs.map V.ref).length = row.length := by rw [List.length_map, hbl]
      refine ⟨rfl, _, rfl, ra, rfl, ⟨_, .of (s4 _ _ hae)⟩, fun E1 hE => lc_list (K := K) (a := ra) (xs := bs.map V.ref) (fun j H5 => ∃ cs : List Addr, Same H4 H5 ∧ H5 E1 = some (.lst (cs.map V.ref)) ∧ cs.length = j ∧ ∀ (m : Nat) (b : Addr), cs[m]? = some b → ∃ t l, row[m]? = some (t, l) ∧ H5 b = some (.tup [.int t, .int l]))
        ⟨[], same_new hE, upd_same, rfl, fun m b e => by (cases e)⟩ (fun i H' _ ⟨_, z, _⟩ => .of (z _ _ (s4 _ _ hae))) ?_ ?_⟩
      · rintro j v H5 hj ⟨cs, s5, e5, hcl, hcs⟩
        obtain ⟨b, hb, rfl⟩ := refs_get hj
        obtain ⟨t, l, hp, hbe⟩ := hR j b hb
        have hjl := (List.getElem?_eq_some_iff.mp hp).1
        refine ⟨b, _, rfl, .of (s5 _ _ (s4 _ _ hbe)), rfl, _, _, rfl, _, _, rfl, rfl, rfl, _, rfl, _, rfl, by show 2 ≤ sizeLine; decide, fun p hp0 => ?_⟩
        have s6 := same_new (o := .tup [.int t, .int l]) hp0
        have nEp : E1 ≠ p := fun z => by rw [z, hp0] at e5; cases e5
        refine ⟨_, s6 _ _ e5, by rw [List.length_map, hcl]; exact Nat.lt_of_le_of_lt (show j ≤ 1000 by omega) (by decide), cs ++ [p], fun d u hd => ?_, by rw [upd_same, List.map_append]; rfl, by rw [List.length_append, hcl]; rfl, fun m b' hm => ?_⟩
        · rw [upd_ne (ne_of_none hd hE)]
          exact s6 _ _ (s5 _ _ hd)
        · rcases snoc_get hm with ⟨h0, h1⟩ | ⟨h1, h2⟩
          · obtain ⟨t', l', g1, g2⟩ := hcs m b' h1
            exact ⟨t', l', g1, tup_upd (s6 _ _ e5) _ _ (s6 _ _ g2)⟩
          · subst h2
            rw [h1, hcl]
            exact ⟨t, l, hp, tup_upd (s6 _ _ e5) _ _ upd_same⟩
      · rintro H5 ⟨cs, s5, e5, hcl, hcs⟩
        rw [hbl2] at hcl
        refine ⟨E1, _, rfl, .inl ⟨.of e5, fun t ht => ?_⟩⟩
        have s6 := same_new (o := .tup (cs.map V.ref)) ht
        have e56 := s6 _ _ (s5 _ _ e4)
        have hal := R4.len
        rw [List.length_take] at hal
        refine ⟨_, e56, by rw [List.length_map]; exact Nat.lt_of_le_of_lt (show as2.length ≤ 1000 by omega) (by decide), as2 ++ [t], fun d u hd => ?_, by rw [upd_same, List.map_append]; rfl, ?_⟩
        · rw [upd_ne (ne_of_none hd hD)]
          exact s6 _ _ (s5 _ _ (s4 _ _ hd))
        · rw [take_get hrow]
          refine RP.keepT (tup_upd e56) (My.RP.snoc (R4.same (s5.trans s6)) (bs := cs) upd_same hcl fun m b hb => ?_)
          obtain ⟨t', l', g1, g2⟩ := hcs m b hb
          exact ⟨t', l', g1, s6 _ _ g2⟩
    · rintro H4 ⟨as2, s4, e4, R4⟩
      rw [hl2, List.take_length] at R4
      refine ⟨D, _, rfl, .inl ⟨.of e4, fun rt hrt => ?_⟩⟩
      have s5 := same_new (o := .tup (as2.map V.ref)) hrt
      have x4 := s5 _ _ (s4 _ _ x3)
      refine ⟨_, rfl, x, C, dx, _, rfl, x4, PC.cl, PC.nr, pl_lt (pl_next (pl_next (pl_next (pl_next pl_0)))) (by decide), q2 hV _ ?_ ⟨dx, ot, rt, as2, upd_same, ?_, ?_, ?_⟩⟩
      · intro b u nb hb
        rw [upd_ne nb]
        exact s5 _ _ (s4 _ _ (k0C _ _ nb hb))
      · show _ = _
        rw [upd_ne nxo.symm]
        exact s5 _ _ (s4 _ _ t3)
      · rw [upd_ne (fun z => by rw [← z, upd_same] at x4; cases x4), upd_same]
      · exact My.RP.kp (fun ys => ⟨fun z => (by rw [x4] at z; cases z), fun z => by rw [x4] at z; (cases z)⟩) Kp.own (R4.same s5)
theorem cut_drop (xs : List V) (n : Nat) : cutV xs (some (n : Int)) none = xs.drop n := by
  unfold cutV
  rw [HT.sIx_none, HT.sIx_nat]
  rcases Nat.le_total n xs.length with c | c
  · rw [Nat.min_eq_left c, List.take_of_length_le (by rw [List.length_drop]; exact Nat.le_refl _)]
  · rw [Nat.min_eq_right c, List.drop_of_length_le (Nat.le_refl _), List.drop_of_length_le c, List.take_nil]
theorem cut_take (xs : List V) (n : Nat) : cutV xs none (some (n : Int)) = xs.take n := by
  unfold cutV
  rw [HT.sIx_none, HT.sIx_nat, List.drop_zero, Nat.sub_zero]
  rcases Nat.le_total n xs.length with c | c
  · rw [Nat.min_eq_left c]
  · rw [Nat.min_eq_right c, List.take_of_length_le c, List.take_of_length_le (Nat.le_refl _)]
theorem ne_new {H : Hp} {p a : Addr} {o : HO} (h : (upd H p o) a = none) : a ≠ p := fun z => by rw [z, upd_same] at h; cases h
theorem un_new {H : Hp} {p a : Addr} {o : HO} (h : (upd H p o) a = none) : H a = none := by
  have n := ne_new h
  rwa [upd_ne n] at h
def SepI (x y p q : Addr) (c c2 : List (List (Int × Int))) (I : Nat) (H : Hp) (m : Nat) (σ : L2.St) (H' : Hp) : Prop := ∃ (k : Nat) (L : L5) (v5 v6 v7 v8 v9 v10 v11 v12 : Option V), m = c.length * c2.length - k ∧ σ = [some (.ref x), some (.ref y), some (.ref p), some (.ref q), some (.int (k : Int)), v5, v6, v7, v8, v9, v10, v11, v12] ∧ Same H H' ∧ WH H' p q L ∧ GG c c2 I k = .inr (qs L) ∧ Wok c.length c2.length (qs L) ∧ ∀ e ∈ L, e.2.2.2.length ≤ k
def spSep (C cX : Addr) : Sp := fun vs H Q E => ∃ (x y : Addr) (I O L I2 O2 J2 : Int) (op op2 : List Int) (c c2 : List (List (Int × Int))), vs = [.ref x, .ref y] ∧ MchAt C H x I O L op c ∧ MchAt C H y I2 O2 J2 op2 c2 ∧ Vm I O L op c ∧ Vm I2 O2 J2 op2 c2 ∧ op.length ≤ 100 ∧ op2.length ≤ 100 ∧ c.length ≤ 100 ∧ c2.length ≤ 100 ∧ I ≤ 100 ∧
  (([I, O, L] : List Int) ≠ [I2, O2, J2] → ∀ H', Same H H' → E (.ref cX) none H') ∧
  ([I, O, L] = [I2, O2, J2] → op ≠ op2 → ∀ (H' : Hp) (t : Addr), Same H H' → H' t = some (.lst []) → Q (.ref t) H') ∧
  ([I, O, L] = [I2, O2, J2] → op = op2 → (∀ H', Same H H' → Res c c2 I.toNat none → Q .non H') ∧ ∀ (H' : Hp) (t : Addr) (w : List Int), Same H H' → H' t = some (.lst (w.map V.int)) → Res c c2 I.toNat (some w) → Q (.ref t) H')
theorem cal_sep {C cX : Addr} (T : Txt K mg cA0 PA0) (PC : MchC K C) (eX : ErrC K mg "Mismatch" cX) : CalX P w K mg base 1 "separating_word" (spSep C cX) := by
  obtain ⟨f, fd, F, hm, hb⟩ := T.h_separating_word
  refine ⟨f, fd, _, F.okX sc_separating_word (fun vs H Q E h => ?_) (fun cdv A outer s H vs Q E hr h => ?_), hm, F.kp, hb⟩
  · obtain ⟨_, _, _, _, _, _, _, _, _, _, _, _, rfl, _⟩ := h
    rfl
  · obtain ⟨x, y, I, O, L, I2, O2, J2, op, op2, c, c2, rfl, hA, hB, hV, hV2, b1, b2, b3, b4, b5, q1, q2, q3⟩ := h
    refine ⟨_, (pss_cons
      (ps_if (pt_cmpR (op_neDK (K := K) rfl hr.units) (pe_tup (pa_cons (pe_fld (pv 0) rfl) (pa_cons (pe_fld (pv 0) rfl) (pa_cons (pe_fld (pv 0) rfl) pa_nil)))) (pe_tup (pa_cons (pe_fld (pv 1) rfl) (pa_cons (pe_fld (pv 1) rfl) (pa_cons (pe_fld (pv 1) rfl) pa_nil)))) (nomark _)) (pss_one
      (ps_raise rfl (takes_of rfl rfl rfl rfl) (eX.made rfl))) pss_nil)
      (pss_cons
      (ps_if (pt_cmpR (op_neDK (K := K) rfl hr.units) (pe_fld (pv 0) rfl) (pe_fld (pv 1) rfl) (nomark _)) (pss_one
      (ps_ret (pe_lst pa_nil))) pss_nil)
      (pss_cons
      (ps_set (i := 2) sc_separating_word.nd rfl (Or.inl rfl) (pe_dispT (hu_of hr) (pe_tup (pa_cons pe_int (pa_cons pe_int pa_nil))) (pe_lst pa_nil)))
      (pss_cons
      (ps_set (i := 3) sc_separating_word.nd rfl (Or.inl rfl) (pe_lst (pa_cons (pe_tup (pa_cons pe_int (pa_cons pe_int pa_nil))) pa_nil)))
      (pss_cons
      (ps_set (i := 4) sc_separating_word.nd rfl (Or.inl rfl) pe_int)
      (C8.pss_cut
      (ps_while (passes_of rfl) (pt_cmpR op_lt (pv 4) (pe_callB (call_lenK (K := K) rfl) (by rfl) T.z_len PySem.boot_len (pa_cons (pv 3) pa_nil)) (nomark _)) (pss_cons
      (ps_asg (pe_ix (ix_listK (K := K) rfl) (pv 3) (pv 4) (fun _ _ => rfl)) (pg_tup (by rfl) (pgs_cons (pg_name (i := 5) sc_separating_word.nd rfl (.inl rfl)) (pgs_cons (pg_name (i := 6) sc_separating_word.nd rfl (.inl rfl)) pgs_nil))))
      (pss_cons
      (ps_set (i := 7) sc_separating_word.nd rfl (Or.inl rfl) (pe_dget (hu_of hr) (pv 2) (pe_tup (pa_cons (pv 5) (pa_cons (pv 6) pa_nil))) (fun _ _ => rfl)))
      (pss_cons
      (ps_aug (i := 4) sc_separating_word.nd rfl (.inl rfl) pe_int ip_add)
      (pss_one
      (ps_for (passes_of rfl) rfl (pi_range1 (by rfl) T.z_range (pa_cons (pe_fld (pv 0) rfl) pa_nil)) (pg_name (i := 8) sc_separating_word.nd rfl (.inl rfl)) (pss_cons
      (ps_asg (pe_ix (ix_tupK (K := K) rfl) (pe_ix (ix_tupK (K := K) rfl) (pe_fld (pv 0) rfl) (pv 5) (fun _ _ => rfl)) (pv 8) (fun _ _ => rfl)) (pg_tup (by rfl) (pgs_cons (pg_name (i := 9) sc_separating_word.nd rfl (.inl rfl)) (pgs_cons (pg_name (i := 10) sc_separating_word.nd rfl (.inl rfl)) pgs_nil))))
      (pss_cons
      (ps_asg (pe_ix (ix_tupK (K := K) rfl) (pe_ix (ix_tupK (K := K) rfl) (pe_fld (pv 1) rfl) (pv 6) (fun _ _ => rfl)) (pv 8) (fun _ _ => rfl)) (pg_tup (by rfl) (pgs_cons (pg_name (i := 11) sc_separating_word.nd rfl (.inl rfl)) (pgs_cons (pg_name (i := 12) sc_separating_word.nd rfl (.inl rfl)) pgs_nil))))
      (pss_cons
      (ps_if (pt_cmpR op_ne (pv 10) (pv 12) (nomark _)) (pss_one
      (ps_ret (pe_op op_cat (pv 7) (pe_lst (pa_cons (pv 8) pa_nil))))) pss_nil)
      (pss_one
      (ps_if (pt_cmp (pc_dnotin (hu_of hr) (pe_tup (pa_cons (pv 9) (pa_cons (pv 11) pa_nil))) (pv 2))) (pss_cons
      (ps_dput (hu_of hr) (pv 2) (pe_tup (pa_cons (pv 9) (pa_cons (pv 11) pa_nil))) (pe_op op_cat (pv 7) (pe_lst (pa_cons (pv 8) pa_nil))) rfl)
      (pss_one
      (ps_expr (pe_bm PySem.F.plainAttrs_list PySem.F.slot_list_append PySem.F.type_list_append mt_append (pv 3) (pa_cons (pe_tup (pa_cons (pv 9) (pa_cons (pv 11) pa_nil))) pa_nil))))) pss_nil)))))))))))
      (pss_one
      (ps_ret pe_non)))))))), ?_⟩
    obtain ⟨dx, ot, rt, as, e1, e2, e3, e4⟩ := id hA
    obtain ⟨dy, ot2, rt2, as2, f1, f2, f3, f4⟩ := id hB
    refine ⟨_, rfl, x, C, dx, _, _, rfl, e1, PC.cl, PC.nI, mf_I _ _ _ _ _, _, rfl, x, C, dx, _, _, rfl, e1, PC.cl, PC.nO, mf_O _ _ _ _ _, _, rfl, x, C, dx, _, _, rfl, e1, PC.cl, PC.nL, mf_L _ _ _ _ _, by show 3 ≤ sizeLine; decide, fun p1 n1 => ?_⟩
    have s1 := same_new (o := .tup [.int I, .int O, .int L]) n1
    have g1 : (upd H p1 (.tup [.int I, .int O, .int L])) p1 = some (.tup ([I, O, L].map V.int)) := upd_same
    generalize upd H p1 (.tup [.int I, .int O, .int L]) = H1 at s1 g1 ⊢
    refine ⟨_, rfl, y, C, dy, _, _, rfl, s1 _ _ f1, PC.cl, PC.nI, mf_I _ _ _ _ _, _, rfl, y, C, dy, _, _, rfl, s1 _ _ f1, PC.cl, PC.nO, mf_O _ _ _ _ _, _, rfl, y, C, dy, _, _, rfl, s1 _ _ f1, PC.cl, PC.nL, mf_L _ _ _ _ _, by show 3 ≤ sizeLine; decide, fun p2 n2 => ?_⟩
    have s2 := s1.trans (same_new (o := .tup [.int I2, .int O2, .int J2]) n2)
    have g1' := same_new (o := .tup [.int I2, .int O2, .int J2]) n2 _ _ g1
    have g2 : (upd H1 p2 (.tup [.int I2, .int O2, .int J2])) p2 = some (.tup ([I2, O2, J2].map V.int)) := upd_same
    generalize upd H1 p2 (.tup [.int I2, .int O2, .int J2]) = H2 at s2 g1' g2 ⊢
    refine ⟨_, _, dp_tup g1', dp_tup g2, shaped_tup _, shaped_tup _, _, rfl, ?_⟩
    rw [eqv_tup]
    by_cases h1 : ([I, O, L] : List Int) = [I2, O2, J2]
    case neg =>
      rw [decide_eq_false h1]
      exact q1 h1 _ s2
    rw [decide_eq_true h1]
    refine ite_f rfl ?_
    refine ⟨_, rfl, x, C, dx, _, _, rfl, s2 _ _ e1, PC.cl, PC.no, mf_o _ _ _ _ _, _, rfl, y, C, dy, _, _, rfl, s2 _ _ f1, PC.cl, PC.no, mf_o _ _ _ _ _, _, _, dp_tup (s2 _ _ e2), dp_tup (s2 _ _ f2), shaped_tup _, shaped_tup _, _, rfl, ?_⟩
    rw [eqv_tup]
    by_cases h2 : op = op2
    case neg =>
      rw [decide_eq_false h2]
      exact ⟨Nat.zero_le _, fun t ht => q2 h1 h2 _ t (s2.trans (same_new ht)) upd_same⟩
    rw [decide_eq_true h2]
    refine ite_f rfl ?_
    obtain ⟨q3, q4⟩ := q3 h1 h2
    have hII : I = I2 := (List.cons.inj h1).1
    clear q1 q2 g1' g2 g1 n1 n2 s1
    refine fun p hp => ⟨by show 2 ≤ sizeLine; decide, fun a ha => ⟨Nat.zero_le _, fun b hb => ?_⟩⟩
    have nap := ne_new ha
    have nbp : b ≠ p := ne_new (un_new hb)
    have nba : b ≠ a := ne_new hb
    refine ⟨a, [Sum.inl 0, Sum.inl 0], rfl, by rw [upd_ne nba.symm, upd_same]; rfl, by rw [upd_ne nbp.symm, upd_ne nap.symm, upd_same], ?_⟩
    have s5 : Same H (upd (upd (upd (upd H2 p (.dT [])) a (.tup [.int 0, .int 0])) b (.lst [])) p (.dT [([Sum.inl 0, Sum.inl 0], .ref b)])) := fun z o hz => by
      have hz2 := s2 _ _ hz
      have n := ne_of_none hz2 hp
      rw [upd_ne n]
      exact same_new hb _ _ (same_new ha _ _ (same_new hp _ _ hz2))
    have ep : (upd (upd (upd (upd H2 p (.dT [])) a (.tup [.int 0, .int 0])) b (.lst [])) p (.dT [([Sum.inl 0, Sum.inl 0], .ref b)])) p = some (.dT [([Sum.inl 0, Sum.inl 0], .ref b)]) := upd_same
    have eb : (upd (upd (upd (upd H2 p (.dT [])) a (.tup [.int 0, .int 0])) b (.lst [])) p (.dT [([Sum.inl 0, Sum.inl 0], .ref b)])) b = some (.lst []) := by rw [upd_ne nbp, upd_same]
    have hpH : H p = none := by
      cases e : H p with
      | none => rfl
      | some o => rw [s2 _ _ e] at hp; cases hp
    generalize upd (upd (upd (upd H2 p (.dT [])) a (.tup [.int 0, .int 0])) b (.lst [])) p (.dT [([Sum.inl 0, Sum.inl 0], .ref b)]) = H5 at s5 ep eb ⊢
    clear hp ha hb nap nbp nba s2
    refine ⟨by show 2 ≤ sizeLine; decide, fun t ht => ⟨by show 1 ≤ sizeLine; decide, fun q hq => ?_⟩⟩
    have s7 : Same H5 (upd (upd H5 t (.tup [.int 0, .int 0])) q (.lst [.ref t])) := fun z o hz => same_new hq _ _ (same_new ht _ _ hz)
    have et : (upd (upd H5 t (.tup [.int 0, .int 0])) q (.lst [.ref t])) t = some (.tup [.int 0, .int 0]) := same_new hq _ _ upd_same
    have eq : (upd (upd H5 t (.tup [.int 0, .int 0])) q (.lst [.ref t])) q = some (.lst [.ref t]) := upd_same
    have nqb : b ≠ q := fun z => by rw [← z, same_new ht _ _ eb] at hq; cases hq
    have hqH : H q = none := by
      cases e : H q with
      | none => rfl
      | some o => rw [same_new ht _ _ (s5 _ _ e)] at hq; cases hq
    generalize upd (upd H5 t (.tup [.int 0, .int 0])) q (.lst [.ref t]) = H7 at s7 et eq ⊢
    have w7 : WH H7 p q [(t, b, (0, 0), [])] := ⟨s7 _ _ ep, eq, fun z hz => by rw [List.mem_singleton.mp hz]; exact et, fun z hz => by rw [List.mem_singleton.mp hz]; exact s7 _ _ eb, fun z hz => by rw [List.mem_singleton.mp hz]; exact nqb⟩
    have s07 := s5.trans s7
    clear s5 s7 ep eb et eq nqb hq ht
    have hc1 : 0 < c.length := List.length_pos_iff.mpr hV.ne
    have hc2 : 0 < c2.length := List.length_pos_iff.mpr hV2.ne
    have wok0 : Wok c.length c2.length (qs [(t, b, (0, 0), [])]) := ⟨by show ([(0, 0)] : List (Int × Int)).Nodup; simp, fun e he => by rw [List.mem_singleton.mp he]; exact ⟨Int.le_refl _, by show (0 : Int) < _; omega⟩, fun e he => by rw [List.mem_singleton.mp he]; exact ⟨Int.le_refl _, by show (0 : Int) < _; omega⟩⟩
    have hNN : c.length * c2.length ≤ 10000 := Nat.mul_le_mul b3 b4
    refine ⟨fun σ H' => Q .non H', ?_, fun σ H' z => z⟩
    refine ⟨SepI x y p q c c2 I.toNat H, ⟨_, 0, _, _, _, _, _, _, _, _, _, rfl, rfl, s07, w7, rfl, wok0, fun e he => by rw [List.mem_singleton.mp he]; exact Nat.le_refl 0⟩, ?_⟩
    rintro m σ H8 ⟨k, L, v5, v6, v7, v8, v9, v10, v11, v12, rfl, rfl, s8, w8, hG, hW, hwl⟩
    clear wok0 w7 s07
    have hlen := wok_len hW
    have hqs : (qs L).length = L.length := List.length_map ..
    have hlq : (L.map fun x => V.ref x.1).length = L.length := List.length_map ..
    refine ⟨_, rfl, _, rfl, q, _, rfl, .inl (.of w8.l), _, _, rfl, rfl, _, rfl, ite2 (fun cc => ?_) (fun cc => ?_)⟩
    · have cc : k < L.length := by have := of_decide_eq_true cc; omega
      obtain ⟨x0, hx0⟩ : ∃ x0, L[k]? = some x0 := ⟨_, List.getElem?_eq_getElem cc⟩
      have hm0 := List.mem_of_getElem? hx0
      have hkN : k < c.length * c2.length := by omega
      refine ⟨SepI x y p q c c2 I.toNat H (c.length * c2.length - (k + 1)), fun σ' H'' hN => ⟨_, by omega, hN⟩, ?_⟩
      refine ⟨_, rfl, _, rfl, q, _, _, .ref x0.1, rfl, rfl, .of w8.l, atI_nat (by rw [List.getElem?_map, hx0]; rfl), ?_⟩
      refine ⟨x0.1, _, rfl, .of (w8.t x0 hm0), rfl, _, _, rfl, _, _, rfl, rfl, ?_⟩
      refine ⟨_, rfl, _, rfl, _, rfl, by show 2 ≤ sizeLine; decide, fun t1 ht1 => ?_⟩
      have s9 := same_new (o := .tup [.int x0.2.2.1.1, .int x0.2.2.1.2]) ht1
      have et1 := upd_same (H := H8) (a := t1) (o := .tup [.int x0.2.2.1.1, .int x0.2.2.1.2])
      generalize upd H8 t1 (.tup [.int x0.2.2.1.1, .int x0.2.2.1.2]) = H9 at s9 et1 ⊢
      have w9 := w8.same s9
      have dg : DGet H9 p (.ref t1) (some (.ref x0.2.1)) := by
        have := DGet.t (k := [Sum.inl x0.2.2.1.1, Sum.inl x0.2.2.1.2]) w9.d et1
        rwa [val_some hW.nd x0 hm0] at this
      refine ⟨p, _, rfl, dg, ?_⟩
      have s09 := s8.trans s9
      have hI0 := hV.i1
      refine ⟨_, rfl, _, _, rfl, rfl, _, rfl, x, C, dx, _, _, rfl, s09 _ _ e1, PC.cl, PC.nI, mf_I _ _ _ _ _, _, rfl, by omega, by omega, ?_⟩
      have hIn : ((I.toNat : Nat) : Int) = I := Int.toNat_of_nonneg (by omega)
      have ha0 := hW.i1 x0.2.2 (List.mem_map.mpr ⟨x0, hm0, rfl⟩)
      have hb0 := hW.i2 x0.2.2 (List.mem_map.mpr ⟨x0, hm0, rfl⟩)
      have hw0 := hwl x0 hm0
      have hgk : (qs L)[k]? = some x0.2.2 := by
        show (L.map (·.2.2))[k]? = _
        rw [List.getElem?_map, hx0]
        rfl
      have e39 := s09 _ _ e3
      have f39 := s09 _ _ f3
      clear s8 w8 et1 dg
      refine for_range (lo := 0) (n := I.toNat) (fun j σ' H' => ∃ (L' : L5) (v8 v9 v10 v11 v12 : Option V), σ' = [some (.ref x), some (.ref y), some (.ref p), some (.ref q), some (.int ((k + 1 : Nat) : Int)), some (.int x0.2.2.1.1), some (.int x0.2.2.1.2), some (.ref x0.2.1), v8, v9, v10, v11, v12] ∧ Same H H' ∧ WH H' p q L' ∧ lets c c2 x0.2.2 (qs L) j = .inr (qs L') ∧ Wok c.length c2.length (qs L') ∧ (∀ e ∈ L', e.2.2.2.length ≤ k + 1) ∧ x0 ∈ L')
        ⟨L, _, _, _, _, _, rfl, s09, w9, rfl, hW, fun e he => Nat.le_succ_of_le (hwl e he), hm0⟩ ?_ ?_
      · clear w9 hW hwl hm0 s9
        rintro j σ' HA hj ⟨L', v8, v9, v10, v11, v12, rfl, sA, wA, hl, hW, hwl, hm0⟩
        have hjI : (j : Int) < I := by omega
        have hj0 : (0 : Int) ≤ (j : Int) := Int.ofNat_nonneg j
        obtain ⟨ra, bs, rb, c1, c2', c3, c4, r1, hr1, hr1'⟩ := cellAt (e4.same sA) hV.w ha0.1 ha0.2 hj0 hjI
        obtain ⟨ra2, bs2, rb2, d1, d2, d3, d4, r2, hr2, hr2'⟩ := cellAt (f4.same sA) hV2.w hb0.1 hb0.2 hj0 (by rw [← hII]; exact hjI)
        have hst1 := hV.st r1 hr1 _ hr1'
        have hst2 := hV2.st r2 hr2 _ hr2'
        rw [show (0 : Int) + (j : Int) = (j : Int) from Int.zero_add _]
        refine ⟨_, rfl, x, C, dx, _, _, rfl, sA _ _ e1, PC.cl, PC.nr, mf_r _ _ _ _ _, _, rfl, rt, _, _, .ref ra, rfl, rfl, .of (sA _ _ e3), atI_int ha0.1 (by rw [List.getElem?_map, c1]; rfl), _, rfl, ra, _, _, .ref rb, rfl, rfl, .of c2', atI_int hj0 (by rw [List.getElem?_map, c3]; rfl), rb, _, rfl, .of c4, rfl, _, _, rfl, _, _, rfl, rfl, ?_⟩
        refine ⟨_, rfl, y, C, dy, _, _, rfl, sA _ _ f1, PC.cl, PC.nr, mf_r _ _ _ _ _, _, rfl, rt2, _, _, .ref ra2, rfl, rfl, .of (sA _ _ f3), atI_int hb0.1 (by rw [List.getElem?_map, d1]; rfl), _, rfl, ra2, _, _, .ref rb2, rfl, rfl, .of d2, atI_int hj0 (by rw [List.getElem?_map, d3]; rfl), rb2, _, rfl, .of d4, rfl, _, _, rfl, _, _, rfl, rfl, ?_⟩
        have hwa := wA.w x0 hm0
        have hlw : (x0.2.2.2.map V.int).length + 1 ≤ 20000 := by rw [List.length_map]; omega
        have hstep := lets_snoc hl
        refine ⟨_, rfl, _, rfl, rfl, _, rfl, ite_ne (fun kk => ?_) (fun kk => ?_)⟩
        · refine ⟨_, rfl, _, rfl, by show 1 ≤ sizeLine; decide, fun l1 hl1 => ?_⟩
          have sB := same_new (o := .lst [V.int (j : Int)]) hl1
          refine ⟨x0.2.1, l1, _, _, rfl, rfl, sB _ _ hwa, upd_same, Nat.le_trans hlw (by decide), fun t ht => ?_⟩
          refine q4 _ t (x0.2.2.2 ++ [(j : Int)]) ((sA.trans sB).trans (same_new ht)) (by rw [upd_same, List.map_append]; rfl) ⟨k + 1, .inl ⟨_, rfl, ?_⟩⟩
          rw [gg_inr hG hgk]
          have hs1 : lets c c2 x0.2.2 (qs L) (j + 1) = .inl (x0.2.2.2 ++ [(j : Int)]) := by
            rw [hstep]
            unfold stepL
            rw [if_pos kk]
          have := lets_inl hs1 (I.toNat - (j + 1))
          rwa [show j + 1 + (I.toNat - (j + 1)) = I.toNat by omega] at this
        have kk' : ¬ ((cellZ c x0.2.2.1.1 (j : Int)).2 ≠ (cellZ c2 x0.2.2.1.2 (j : Int)).2) := fun z => z kk
        generalize e1' : (cellZ c x0.2.2.1.1 (j : Int)).1 = ta at hst1 ⊢
        generalize e2' : (cellZ c2 x0.2.2.1.2 (j : Int)).1 = tb at hst2 ⊢
        refine ⟨_, rfl, _, rfl, by show 2 ≤ sizeLine; decide, fun t0 ht0 => ?_⟩
        have sB := same_new (o := .tup [.int ta, .int tb]) ht0
        have et0 := upd_same (H := HA) (a := t0) (o := .tup [.int ta, .int tb])
        generalize upd HA t0 (.tup [.int ta, .int tb]) = HB at sB et0 ⊢
        have wB := wA.same sB
        have dg := DGet.t (k := [Sum.inl ta, Sum.inl tb]) wB.d et0
        refine ⟨_, rfl, p, _, rfl, dg, ?_⟩
        by_cases hin : (ta, tb) ∈ (qs L').map (·.1)
        · -- there already
          have hsome : (valV (L'.map ent) [Sum.inl ta, Sum.inl tb]).isSome = true := by
            obtain ⟨e, he, h1⟩ := List.mem_map.mp hin
            obtain ⟨z, hz, rfl⟩ := List.mem_map.mp he
            have := val_some hW.nd z hz
            rw [show z.2.2.1.1 = ta from congrArg Prod.fst h1, show z.2.2.1.2 = tb from congrArg Prod.snd h1] at this
            rw [this]
            rfl
          refine ⟨_, rfl, ite_f (c := !(valV (L'.map ent) [Sum.inl ta, Sum.inl tb]).isSome) (by rw [hsome]; rfl) ?_⟩
          refine ⟨L', _, _, _, _, _, rfl, sA.trans sB, wB, ?_, hW, hwl, hm0⟩
          rw [hstep]
          unfold stepL
          rw [if_neg kk', if_pos (by rw [e1', e2']; exact hin)]
        have hnone := val_none hin
        refine ⟨_, rfl, ite_t (c := !(valV (L'.map ent) [Sum.inl ta, Sum.inl tb]).isSome) (by rw [hnone]; rfl) ?_⟩
        refine ⟨_, rfl, _, rfl, by show 1 ≤ sizeLine; decide, fun l1 hl1 => ?_⟩
        have sC := sB.trans (same_new (o := .lst [V.int (j : Int)]) hl1)
        have el1 := upd_same (H := HB) (a := l1) (o := .lst [V.int (j : Int)])
        generalize upd HB l1 (.lst [V.int (j : Int)]) = HC at sC el1 ⊢
        refine ⟨x0.2.1, l1, _, _, rfl, rfl, sC _ _ hwa, el1, Nat.le_trans hlw (by decide), fun w1 hw1 => ?_⟩
        have sD := sC.trans (same_new (o := .lst (x0.2.2.2.map V.int ++ [V.int (j : Int)])) hw1)
        have ew1 := upd_same (H := HC) (a := w1) (o := .lst (x0.2.2.2.map V.int ++ [V.int (j : Int)]))
        have nwq : w1 ≠ q := fun z => by rw [z, sC _ _ wA.l] at hw1; cases hw1
        have nwp : w1 ≠ p := fun z => by rw [z, sC _ _ wA.d] at hw1; cases hw1
        generalize upd HC w1 (.lst (x0.2.2.2.map V.int ++ [V.int (j : Int)])) = HD at sD ew1 ⊢
        refine ⟨_, rfl, _, rfl, _, rfl, by show 2 ≤ sizeLine; decide, fun t1 ht1 => ?_⟩
        have sE := sD.trans (same_new (o := .tup [.int ta, .int tb]) ht1)
        have ew1 := same_new (o := .tup [.int ta, .int tb]) ht1 _ _ ew1
        have et1 := upd_same (H := HD) (a := t1) (o := .tup [.int ta, .int tb])
        generalize upd HD t1 (.tup [.int ta, .int tb]) = HE at sE ew1 et1 ⊢
        have wE := wA.same sE
        have hLl : L'.length ≤ 10000 := by
          have h1 := wok_len hW
          have h2 : (qs L').length = L'.length := List.length_map ..
          omega
        refine ⟨p, upd HE p (.dT (L'.map ent ++ [([Sum.inl ta, Sum.inl tb], .ref w1)])), rfl, ?_, ?_⟩
        · rw [← putK_new _ hnone]
          exact DPut.t wE.d et1 (by rw [List.length_map]; exact Nat.lt_of_le_of_lt hLl (by decide))
        have npq : p ≠ q := fun z => by have := wE.d; rw [z, wE.l] at this; cases this
        have efq : (upd HE p (.dT (L'.map ent ++ [([Sum.inl ta, Sum.inl tb], .ref w1)]))) q = some (.lst (L'.map fun x => V.ref x.1)) := by rw [upd_ne npq.symm]; exact wE.l
        have efp : (upd HE p (.dT (L'.map ent ++ [([Sum.inl ta, Sum.inl tb], .ref w1)]))) p = _ := upd_same
        have kF : ∀ b o, b ≠ p → HE b = some o → (upd HE p (.dT (L'.map ent ++ [([Sum.inl ta, Sum.inl tb], .ref w1)]))) b = some o := fun b o n hb => by rw [upd_ne n]; exact hb
        generalize upd HE p (.dT (L'.map ent ++ [([Sum.inl ta, Sum.inl tb], .ref w1)])) = HF at efq efp kF ⊢
        refine ⟨_, rfl, .inl ⟨rfl, _, .of efq⟩, _, rfl, _, rfl, by show 2 ≤ sizeLine; decide, fun t2 ht2 => ?_⟩
        have sG := same_new (o := .tup [.int ta, .int tb]) ht2
        have et2 := upd_same (H := HF) (a := t2) (o := .tup [.int ta, .int tb])
        generalize upd HF t2 (.tup [.int ta, .int tb]) = HG at sG et2 ⊢
        have n2q : t2 ≠ q := fun z => by rw [z, sG _ _ efq] at et2; cases et2
        refine ⟨q, _, _, rfl, rfl, sG _ _ efq, by rw [List.length_map]; exact Nat.lt_of_le_of_lt hLl (by decide), ?_⟩
        have kH : ∀ b o, b ≠ p → b ≠ q → HE b = some o → (upd HG q (.lst ((L'.map fun x => V.ref x.1) ++ [.ref t2]))) b = some o := fun b o n1 n2 hb => by
          rw [upd_ne n2]
          exact sG _ _ (kF _ _ n1 hb)
        have wH := wE.add (wa := w1) (t := t2) (a := ta) (b := tb) (w := x0.2.2.2 ++ [(j : Int)]) kH (by rw [upd_ne npq]; exact sG _ _ efp) upd_same (kH _ _ nwp nwq (by rw [List.map_append]; exact ew1)) nwq (by rw [upd_ne n2q]; exact et2)
        refine ⟨L' ++ [(t2, w1, (ta, tb), x0.2.2.2 ++ [(j : Int)])], _, _, _, _, _, rfl, fun b o hb => ?_, wH, ?_, ?_, fun e he => ?_, List.mem_append_left _ hm0⟩
        · exact kH _ _ (ne_of_none hb hpH) (ne_of_none hb hqH) (sE _ _ (sA _ _ hb))
        · rw [hstep]
          unfold stepL
          rw [if_neg kk', if_neg (by rw [e1', e2']; exact hin), e1', e2']
          show _ = Sum.inr ((L' ++ _).map _)
          rw [List.map_append]
          rfl
        · have hst : stepL c c2 x0.2.2 (qs L') j = .inr (qs L' ++ [((ta, tb), x0.2.2.2 ++ [(j : Int)])]) := by
            unfold stepL
            rw [if_neg kk', if_neg (by rw [e1', e2']; exact hin), e1', e2']
          have := (wok_step hW (by rw [e1']; exact hst1) (by rw [e2']; exact hst2) hst).1
          show Wok _ _ ((L' ++ _).map _)
          rw [List.map_append]
          exact this
        · rcases List.mem_append.mp he with y | y
          · exact hwl e y
          · rw [List.mem_singleton.mp y]
            show (x0.2.2.2 ++ [(j : Int)]).length ≤ k + 1
            rw [List.length_append]
            show x0.2.2.2.length + 1 ≤ k + 1
            omega
      · rintro σ' HA ⟨L', v8, v9, v10, v11, v12, rfl, sA, wA, hl, hW, hwl, hm0⟩
        exact ⟨k + 1, L', _, _, _, _, _, _, _, _, rfl, rfl, sA, wA, by rw [gg_inr hG hgk]; exact hl, hW, hwl⟩
    · have cc : L.length ≤ k := by
        have : ¬ ((k : Int) < ((L.map fun x => V.ref x.1).length : Int)) := fun z => cc (decide_eq_true z)
        omega
      exact q3 _ s8 ⟨k, .inr ⟨rfl, qs L, hG, by omega⟩⟩
/-! minimize -/
theorem mch_ext {C : Addr} {H H' : Hp} {x : Addr} {I O L : Int} {op : List Int} {c : List (List (Int × Int))} (s : LamX.ExtN H H') (h : MchAt C H x I O L op c) : MchAt C H' x I O L op c := by
  obtain ⟨dx, ot, rt, as, e1, e2, e3, e4⟩ := h
  have k : ∀ b xs, H b = some (.tup xs) → H' b = some (.tup xs) := fun b xs e => s _ _ e (by intro ps z; cases z)
  exact ⟨dx, ot, rt, as, s _ _ e1 (by intro ps z; cases z), k _ _ e2, k _ _ e3, ⟨e4.len, fun i a e => by
    obtain ⟨bs, row, h1, h2, h3, h4⟩ := e4.g i a e
    exact ⟨bs, row, h1, k _ _ h2, h3, fun j b hb => by obtain ⟨t, l, h5, h6⟩ := h4 j b hb; exact ⟨t, l, h5, k _ _ h6⟩⟩⟩⟩
def spMin (C PA0 : Addr) : Sp := fun vs H Q _ => ∃ (x : Addr) (O L : Int) (op : List Int) (lab : Nat → List Int) (mv : Nat → Nat → Nat) (l n : Nat) (f : Nat → Nat) (M : List Nat), vs = [.ref x] ∧ MchAt C H x (l : Int) O L op (cells lab mv l n) ∧ Vm (l : Int) O L op (cells lab mv l n) ∧ 0 < n ∧ n ≤ 100 ∧ l ≤ 100 ∧ op.length ≤ 100 ∧ (∀ i, i < n → (lab i).length = l) ∧
  Bq.Pick lab mv l n f ∧ Bq.OrdQ mv l 0 f M ∧ NdefX.TabsN (TbT PA0) H ∧
  ∀ (H' : Hp) (y : Addr), LamX.ExtN H H' → NdefX.TabsN (TbT PA0) H' → MchAt C H' y (l : Int) O L op (qcells lab mv l f M) → Q (.ref y) H'
theorem cal_min {cI C fI : Addr} {fdI : FuncData} {tk1 tk2 : Tok} (T : Txt K mg cA0 PA0) (TB0 : LamX.TabB base mg cA0 PA0) (eI : ErrC K mg "InvalidMachine" cI) (PC : MchC K C) (hM0 : Mk K C fI) (gC : mg "Machine" = some (.ref C)) (F0 : L2.Fun K "__init__" "Machine.__init__" s_Machine_init fI fdI) (hB : Binds K fdI ["self", "inputs", "outputs", "lead", "opening", "rows"] []) (gLL : mg "LEAST_LEAD" = some (.int (-3) tk1)) (gGL : mg "GREATEST_LEAD" = some (.int 2 tk2)) :
    C8.Cal P w K mg base 4 "minimize" (spMin C PA0) [] := by
  have MK : MakX P w K mg base 2 "Machine" C (spInitM C cI) := ⟨fI, fdI, _, hM0, ok_initM T eI PC gLL gGL F0, gC, hB⟩
  have C_without_alike : C8.Cal P w K mg base 3 "without_alike" (spWal PA0) [] := cal_wal T TB0
  obtain ⟨f, fd, F, hm, hb⟩ := T.h_minimize
  refine ⟨f, fd, _, [], F.ok sc_minimize (fun vs H Q E h => ?_) (fun cdv A outer s H vs Q E hr h => ?_), hm, F.kp, hb, .nil⟩
  · obtain ⟨x, O, L, op, lab, mv, l, n, f, M, rfl, _⟩ := h
    rfl
  · obtain ⟨x, O, L, op, lab, mv, l, n, fp, M, rfl, hA, hV, hn, hn2, hl2, hop, hll, hP, hM, hTb, q⟩ := h
    refine ⟨_, (pss_cons
      (ps_set (i := 1) sc_minimize.nd rfl (Or.inr rfl) (pe_lc (own := [("row", 6)]) (g := gName 6) (tt := tYes) rfl sc_minimize.nd (pi_tup (pe_fld (pv 0) rfl)) (blkOk_by (N := N_minimize) (sc := defScope s_minimize) (by decide +kernel)) (fun _ _ _ _ _ => (pg_name (i := 6) sc_minimize.nd rfl (by first | exact Or.inl rfl | exact Or.inr rfl))) (fun _ _ _ _ _ => pts_nil) (fun _ _ _ _ _ => (pe_callTy (call_tuple_ofK (K := K) rfl) (by rfl) T.z_tuple (by decide +kernel) (pa_cons (pe_lc (own := [("_", 7), ("letter", 8)]) (g := gTup K 2 (gCons (gName 7) (gCons (gName 8) gNil))) (tt := tYes) rfl sc_minimize.nd (pi_tupK (K := K) rfl (pv 6)) (blkOk_by (N := N_minimize) (sc := stS (defScope s_minimize) 0 (defBody s_minimize)) (by decide +kernel)) (fun _ _ _ _ _ => (pg_tup (by rfl) (pgs_cons (pg_name (i := 7) sc_minimize.nd rfl (Or.inl rfl)) (pgs_cons (pg_name (i := 8) sc_minimize.nd rfl (Or.inl rfl)) pgs_nil)))) (fun _ _ _ _ _ => pts_nil) (fun _ _ _ _ _ => (pv 8))) pa_nil)))))
      (pss_cons
      (ps_setLc (i := 2) (own := [("row", 6)]) (g := gName 6) (tt := tYes) rfl sc_minimize.nd rfl rfl (sw_true rfl rfl rfl (by decide +kernel)) (pi_tup (pe_fld (pv 0) rfl)) (blkOk_by (N := N_minimize) (sc := defScope s_minimize) (by decide +kernel)) (fun _ _ _ _ _ => (pg_name (i := 6) sc_minimize.nd rfl (by first | exact Or.inl rfl | exact Or.inr rfl))) (fun _ _ _ _ _ => pts_nil) (fun _ _ _ _ _ => (pe_lc (own := [("target", 9), ("_", 7)]) (g := gTup K 2 (gCons (gName 9) (gCons (gName 7) gNil))) (tt := tYes) rfl sc_minimize.nd (pi_tupK (K := K) rfl (pv 6)) (blkOk_by (N := N_minimize) (sc := stS (defScope s_minimize) 1 (defBody s_minimize)) (by decide +kernel)) (fun _ _ _ _ _ => (pg_tup (by rfl) (pgs_cons (pg_name (i := 9) sc_minimize.nd rfl (Or.inl rfl)) (pgs_cons (pg_name (i := 7) sc_minimize.nd rfl (Or.inl rfl)) pgs_nil)))) (fun _ _ _ _ _ => pts_nil) (fun _ _ _ _ _ => (pv 9)))))
      (pss_cons
      (ps_asg (C8.pe_c C_without_alike hr (by decide) (by rfl) (pa_cons pe_int (pa_cons (pv 1) (pa_cons (pv 2) pa_nil)))) (pg_tup (by rfl) (pgs_cons (pg_name (i := 3) sc_minimize.nd rfl (.inl rfl)) (pgs_cons (pg_name (i := 4) sc_minimize.nd rfl (.inl rfl)) pgs_nil))))
      (pss_cons
      (ps_setLc (i := 5) (own := [("state", 10), ("row", 6)]) (g := gTup K 2 (gCons (gName 10) (gCons (gName 6) gNil))) (tt := tYes) rfl sc_minimize.nd rfl rfl (sw_true rfl rfl rfl (by decide +kernel)) (pi_zip (by rfl) T.z_zip (pa_cons (pv 3) (pa_cons (pv 4) pa_nil))) (blkOk_by (N := N_minimize) (sc := defScope s_minimize) (by decide +kernel)) (fun _ _ _ _ _ => (pg_tup (by rfl) (pgs_cons (pg_name (i := 10) sc_minimize.nd rfl (Or.inl rfl)) (pgs_cons (pg_name (i := 6) sc_minimize.nd rfl (Or.inl rfl)) pgs_nil)))) (fun _ _ _ _ _ => pts_nil) (fun _ _ _ _ _ => (Lzp.pe_listZip (K := K) rfl rfl (pa_cons (pv 6) (pa_cons (pe_ix (ix_listK (K := K) rfl) (pv 1) (pv 10) (fun _ _ => rfl)) pa_nil)) (by rfl) T.z_zip (by rfl) T.z_list (by decide +kernel))))
      (pss_one
      (ps_ret (pe_makeN MK hr (by decide) (by rfl) (pa_cons (pe_fld (pv 0) rfl) (pa_cons (pe_fld (pv 0) rfl) (pa_cons (pe_fld (pv 0) rfl) (pa_cons (pe_fld (pv 0) rfl) (pa_cons (pv 5) pa_nil)))))))))))), ?_⟩
    obtain ⟨dx, ot, rt, as, e1, e2, e3, e4⟩ := id hA
    have hasl : as.length = n := by rw [e4.len, cells_len]
    have hga : ∀ {i a}, as[i]? = some a → ∃ bs : List Addr, i < n ∧ H a = some (.tup (bs.map V.ref)) ∧ bs.length = l ∧ ∀ (j : Nat) (b : Addr), bs[j]? = some b → j < l ∧ H b = some (.tup [VN (mv i j), .int ((lab i).getD j 0)]) := fun {i a} ha => by
      obtain ⟨bs, row, h1, h2, h3, h4⟩ := e4.g i a ha
      have hi : i < n := by have := lt_of_get ha; omega
      rw [cells_get hi] at h1
      obtain rfl := Option.some.inj h1
      have hbl : bs.length = l := by rw [h3, List.length_map, List.length_range]
      refine ⟨bs, hi, h2, hbl, fun j b hb => ?_⟩
      obtain ⟨t, u, h5, h6⟩ := h4 j b hb
      have hj : j < l := by have := lt_of_get hb; omega
      rw [rng_get hj] at h5
      cases h5
      exact ⟨hj, h6⟩
    have labE : ∀ i, i < n → (List.range l).map (fun j => (lab i).getD j 0) = lab i := fun i hi => by
      have hl := hll i hi
      apply List.ext_getElem?
      intro j
      rcases Nat.lt_or_ge j l with h | h
      · rw [rng_get h, List.getD_eq_getElem?_getD, List.getElem?_eq_getElem (by rw [hl]; exact h)]
        rfl
      · rw [List.getElem?_eq_none (by rw [List.length_map, List.length_range]; exact h), List.getElem?_eq_none (by rw [hl]; exact h)]
    -- emitted
    refine ⟨_, rfl, x, C, dx, _, _, rfl, e1, PC.cl, PC.nr, mf_r _ _ _ _ _, rt, rfl, ⟨_, .of e3⟩, fun D nD => ?_⟩
    refine lc_tup (K := K) (a := rt) (xs := as.map V.ref) (fun i H' => Same H H' ∧ ∃ ds : List Addr, H' D = some (.lst (ds.map V.ref)) ∧ ds.length = i ∧ ∀ (j : Nat) (b : Addr), ds[j]? = some b → H' b = some (.tup ((lab j).map V.int)))
      ⟨same_new nD, [], upd_same, rfl, fun j b e => by (cases e)⟩ (fun j H' _ ⟨z, _⟩ => .of (z _ _ e3)) ?_ ?_
    · rintro i v H1 hi ⟨s1, ds, eD, hdl, hds⟩
      obtain ⟨a, ha, rfl⟩ := refsg hi
      obtain ⟨bs, hin, ea, hbl, hbs⟩ := hga ha
      refine ⟨rfl, _, rfl, a, rfl, ⟨_, .of (s1 _ _ ea)⟩, fun D2 nD2 => lc_tup (K := K) (a := a) (xs := bs.map V.ref) (fun j H' => Same H1 H' ∧ H' D2 = some (.lst (((List.range j).map fun j => (lab i).getD j 0).map V.int)))
        ⟨same_new nD2, upd_same⟩ (fun j H' _ ⟨z, _⟩ => .of (z _ _ (s1 _ _ ea))) ?_ ?_⟩
      · rintro j v H2 hj ⟨s2, eD2⟩
        obtain ⟨b, hb, rfl⟩ := refsg hj
        obtain ⟨hjl, eb⟩ := hbs j b hb
        refine ⟨b, _, rfl, .of (s2 _ _ (s1 _ _ eb)), rfl, _, _, rfl, _, _, rfl, rfl, rfl, _, rfl, _, eD2, ?_, ?_, ?_⟩
        · rw [List.length_map, List.length_map, List.length_range]
          exact Nat.lt_of_le_of_lt (show j ≤ 100 by omega) (by decide)
        · intro q o e
          rw [upd_ne (ne_of_none e nD2)]
          exact s2 _ _ e
        · rw [upd_same, List.range_succ, List.map_append, List.map_append]
          rfl
      rintro H2 ⟨s2, eD2⟩
      rw [List.length_map, hbl, labE i hin] at eD2
      refine ⟨D2, _, rfl, .inl ⟨.of eD2, fun t nt => ?_⟩⟩
      generalize hX : upd H2 t _ = H3; obtain ⟨sH3, et⟩ := nw nt hX; clear hX
      have s13 := s2.trans sH3
      have eD3 := s13 _ _ eD
      have ntD : t ≠ D := fun z => by rw [z, s2 _ _ eD] at nt; cases nt
      refine ⟨_, eD3, by rw [List.length_map, hdl]; exact Nat.lt_of_le_of_lt (show i ≤ 100 by omega) (by decide), fun q o e => ?_, ds ++ [t], by rw [upd_same, List.map_append]; rfl, by rw [List.length_append, hdl]; rfl, fun j b e => ?_⟩
      · rw [upd_ne (ne_of_none e nD)]
        exact s13 _ _ (s1 _ _ e)
      · rcases snocg e with ⟨_, z⟩ | ⟨z1, z2⟩
        · have hb := hds j b z
          rw [upd_ne (fun y => by rw [y, eD] at hb; cases hb)]
          exact s13 _ _ hb
        · rw [z2, z1, hdl, upd_ne ntD]
          exact et
    rintro H1 ⟨s1, ds, eE, hdl, hds⟩
    rw [List.length_map, hasl] at hdl
    -- targets
    have e31 := s1 _ _ e3
    refine ⟨_, rfl, x, C, dx, _, _, rfl, s1 _ _ e1, PC.cl, PC.nr, mf_r _ _ _ _ _, rt, rfl, ⟨_, .of e31⟩, fun R nR => ?_⟩
    refine lc_tup (K := K) (a := rt) (xs := as.map V.ref) (fun i H' => Same H1 H' ∧ ∃ ds : List Addr, H' R = some (.lst (ds.map V.ref)) ∧ ds.length = i ∧ ∀ (j : Nat) (b : Addr), ds[j]? = some b → b ≠ R ∧ H' b = some (.lst ((Bq.rowM mv l j).map VN)))
      ⟨same_new nR, [], upd_same, rfl, fun j b e => by (cases e)⟩ (fun j H' _ ⟨z, _⟩ => .of (z _ _ e31)) ?_ ?_
    · rintro i v H2 hi ⟨s2, rs, eR, hrl, hrs⟩
      obtain ⟨a, ha, rfl⟩ := refsg hi
      obtain ⟨bs, hin, ea, hbl, hbs⟩ := hga ha
      have ea2 := s2 _ _ (s1 _ _ ea)
      refine ⟨rfl, _, rfl, a, rfl, ⟨_, .of ea2⟩, fun D2 nD2 => lc_tup (K := K) (a := a) (xs := bs.map V.ref) (fun j H' => Same H2 H' ∧ H' D2 = some (.lst (((List.range j).map (mv i)).map VN)))
        ⟨same_new nD2, upd_same⟩ (fun j H' _ ⟨z, _⟩ => .of (z _ _ ea2)) ?_ ?_⟩
      · rintro j v H3 hj ⟨s3, eD2⟩
        obtain ⟨b, hb, rfl⟩ := refsg hj
        obtain ⟨hjl, eb⟩ := hbs j b hb
        refine ⟨b, _, rfl, .of (s3 _ _ (s2 _ _ (s1 _ _ eb))), rfl, _, _, rfl, _, _, rfl, rfl, rfl, _, rfl, _, eD2, ?_, ?_, ?_⟩
        · rw [List.length_map, List.length_map, List.length_range]
          exact Nat.lt_of_le_of_lt (show j ≤ 100 by omega) (by decide)
        · intro q o e
          rw [upd_ne (ne_of_none e nD2)]
          exact s3 _ _ e
        · rw [upd_same, List.range_succ, List.map_append, List.map_append]
          rfl
      rintro H3 ⟨s3, eD2⟩
      rw [List.length_map, hbl] at eD2
      have eR3 := s3 _ _ eR
      have nDR : D2 ≠ R := fun z => by rw [z, eR] at nD2; cases nD2
      refine ⟨_, eR3, by rw [List.length_map, hrl]; exact Nat.lt_of_le_of_lt (show i ≤ 100 by omega) (by decide), fun q o e => ?_, rs ++ [D2], by rw [upd_same, List.map_append]; rfl, by rw [List.length_append, hrl]; rfl, fun j b e => ?_⟩
      · rw [upd_ne (ne_of_none e nR)]
        exact s3 _ _ (s2 _ _ e)
      · rcases snocg e with ⟨_, z⟩ | ⟨z1, z2⟩
        · obtain ⟨n1, hb⟩ := hrs j b z
          exact ⟨n1, by rw [upd_ne n1]; exact s3 _ _ hb⟩
        · rw [z2, z1, hrl]
          exact ⟨nDR, by rw [upd_ne nDR]; exact eD2⟩
    rintro H2 ⟨s2, rs, eR, hrl, hrs⟩
    rw [List.length_map, hasl] at hrl
    have s02 := s1.trans s2
    have eE2 := s2 _ _ eE
    refine ⟨_, rfl, _, rfl, D, R, lab, mv, l, n, 0, fp, M, rfl, ⟨ds, eE2, by rw [hdl, List.length_map, List.length_range], fun j b e => ?_⟩, ⟨rs, eR, by rw [hrl, List.length_map, List.length_range], fun j b e => ?_⟩, hn, hn2, hl2, hP, hM, hTb.ext s02, fun H3 p S G sts x3 hTb3 ep eS hG hlab hlt => ?_⟩
    · have hj : j < n := by have := lt_of_get e; omega
      exact ⟨lab j, rng_get hj, s2 _ _ (hds j b e)⟩
    · have hj : j < n := by have := lt_of_get e; omega
      exact ⟨_, rng_get hj, (hrs j b e).2⟩
    refine ⟨p, _, rfl, .of ep, rfl, _, _, rfl, _, _, rfl, rfl, ?_⟩
    have x03 := ext_trans (ext_of s02) x3
    have eE3 := x3 _ _ eE2 (by intro ps z; cases z)
    have hds3 : ∀ (j : Nat) (b : Addr), ds[j]? = some b → H3 b = some (.tup ((lab j).map V.int)) := fun j b e => x3 _ _ (s2 _ _ (hds j b e)) (by intro ps z; cases z)
    have f1 := x03 _ _ e1 (by intro ps z; cases z)
    have f2 := x03 _ _ e2 (by intro ps z; cases z)
    have hsl : sts.length = M.length := by
      have := congrArg List.length hlab
      rwa [List.length_map, List.length_map] at this
    have hMl : M.length ≤ 100 := by
      have := List.Nodup.length_le_of_subset (Bq.ord_nd hM) (l₂ := List.range n) fun b hb => List.mem_range.mpr (Bq.ordq_fix hP hn hM b hb).1
      rw [List.length_range] at this
      omega
    obtain ⟨gs, eG, hgl, hgs⟩ := id hG
    have hgl2 : gs.length = M.length := by rw [hgl]; unfold Bq.qrows; rw [List.length_map]
    clear s1 s2 s02 eE eE2 hds hrs eR hrl nD nR e31 x3
    -- the rows
    refine ⟨_, rfl, _, rfl, S, G, _, _, rfl, .of eS, .of eG, fun W nW => ?_⟩
    refine lc_it (walk_zip (K := K) (a := S) (b := G) (xs := sts.map VN) (ys := gs.map V.ref) (n := M.length) (by rw [List.length_map, List.length_map, hsl, hgl2, Nat.min_self]))
      (fun i H' => Same H3 H' ∧ ∃ ws : List Addr, H' W = some (.lst (ws.map V.ref)) ∧ ws.length = i ∧ ∀ (j : Nat) (w : Addr), ws[j]? = some w → w ≠ W ∧ ∃ bs : List Addr, H' w = some (.lst (bs.map V.ref)) ∧ bs.length = l ∧ ∀ (k : Nat) (b : Addr), bs[k]? = some b → H' b = some (.tup [VN (Bq.qmv mv fp M j k), .int ((Bq.qlab lab M j).getD k 0)]))
      ⟨same_new nW, [], upd_same, rfl, fun j w e => by (cases e)⟩ (fun j H5 _ ⟨z9, _⟩ => ⟨.of (z9 _ _ eS), .of (z9 _ _ eG)⟩) ?_ ?_
    · rintro i v H5 H6 hi ⟨s5, ws, eW, hwl, hws⟩ ⟨t2, y1, y2, rfl, nt2, rfl, hy1, hy2⟩
      obtain ⟨y, hy, rfl⟩ := mapg hy1
      obtain ⟨g, hg, rfl⟩ := refsg hy2
      obtain ⟨row, hr1, hr2⟩ := hgs i g hg
      have hyn := hlt y (List.mem_of_getElem? hy)
      obtain ⟨bM, hbM⟩ : ∃ b, M[i]? = some b := ⟨_, List.getElem?_eq_getElem hi⟩
      have hrow : row = (List.range l).map fun a => M.idxOf (fp (mv bM a)) := by
        unfold Bq.qrows at hr1
        rw [List.getElem?_map, hbM] at hr1
        exact (Option.some.inj hr1).symm
      subst hrow
      have hly : lab y = lab bM := by
        have := congrArg (fun z => z[i]?) hlab
        have : (sts.map lab)[i]? = (M.map lab)[i]? := this
        rw [List.getElem?_map, List.getElem?_map, hy, hbM] at this
        exact Option.some.inj this
      have hMD : M.getD i 0 = bM := by rw [List.getD_eq_getElem?_getD, hbM]; rfl
      obtain ⟨db, hdb⟩ : ∃ b, ds[y]? = some b := ⟨_, List.getElem?_eq_getElem (by rw [hdl]; exact hyn)⟩
      generalize hX : upd H5 t2 _ = H6; obtain ⟨sH6, et2⟩ := nw nt2 hX; clear hX
      have s36 := s5.trans sH6
      have ed6 := s36 _ _ (hds3 y db hdb)
      have eg6 := s36 _ _ hr2
      have hll2 := hll y hyn
      refine ⟨t2, _, rfl, .of et2, rfl, _, _, rfl, _, _, rfl, rfl, rfl, ?_⟩
      refine ⟨_, rfl, _, rfl, _, rfl, D, _, _, .ref db, rfl, rfl, .of (s36 _ _ eE3), atN hdb, g, db, _, _, rfl, .of eg6, .of ed6, ?_, ?_, fun H7 lz ts k1 k2 k3 k4 k5 k6 k7 => ?_⟩
      · rw [List.length_map, List.length_map, List.length_range, List.length_map, hll2]
      · rw [List.length_map, List.length_map, List.length_range]
        exact Nat.le_trans hl2 (by decide)
      have eW7 := k1 _ _ (sH6 _ _ eW)
      have nlW : lz ≠ W := fun z => by rw [z, sH6 _ _ eW] at k2; cases k2
      refine ⟨_, eW7, by rw [List.length_map, hwl]; exact Nat.lt_of_le_of_lt (show i ≤ 100 by omega) (by decide), fun q o e => ?_, ws ++ [lz], by rw [upd_same, List.map_append]; rfl, by rw [List.length_append, hwl]; rfl, fun j w e => ?_⟩
      · rw [upd_ne (ne_of_none e nW)]
        exact k1 _ _ (s36 _ _ e)
      · have kt : ∀ c xs, H7 c = some (.tup xs) → (upd H7 W (.lst (ws.map V.ref ++ [V.ref lz]))) c = some (.tup xs) := fun c xs e => by rw [upd_ne (fun z => by rw [z, eW7] at e; cases e)]; exact e
        rcases snocg e with ⟨_, z⟩ | ⟨z1, z2⟩
        · obtain ⟨n1, bs, q1, q2, q3⟩ := hws j w z
          exact ⟨n1, bs, by rw [upd_ne n1]; exact k1 _ _ (sH6 _ _ q1), q2, fun k b hb => kt _ _ (k1 _ _ (sH6 _ _ (q3 k b hb)))⟩
        · rw [z2, z1, hwl]
          refine ⟨nlW, ts, by rw [upd_ne nlW]; exact k5, by rw [k6, List.length_map, List.length_map, List.length_range], fun k b hb => kt _ _ ?_⟩
          obtain ⟨v1, v2, g1, g2, g3⟩ := k7 k b hb
          have hkl : k < l := by have := lt_of_get g1; rwa [List.length_map, List.length_map, List.length_range] at this
          rw [List.getElem?_map, rng_get hkl] at g1
          rw [List.getElem?_map, List.getElem?_eq_getElem (by rw [hll2]; exact hkl)] at g2
          cases g1
          cases g2
          rw [g3]
          unfold Bq.qmv Bq.qlab
          rw [hMD, ← hly, List.getD_eq_getElem?_getD, List.getElem?_eq_getElem (by rw [hll2]; exact hkl)]
          rfl
    rintro H5 ⟨s5, ws, eW, hwl, hws⟩
    have hRP : RP .lst H5 ws (qcells lab mv l fp M) := ⟨by rw [hwl, cells_len], fun i a e => by
      have hi : i < M.length := by have := lt_of_get e; omega
      obtain ⟨_, bs, q1, q2, q3⟩ := hws i a e
      refine ⟨bs, _, cells_get hi, q1, by rw [q2, List.length_map, List.length_range], fun k b hb => ?_⟩
      have hk : k < l := by have := lt_of_get hb; omega
      exact ⟨_, _, rng_get hk, q3 k b hb⟩⟩
    have hVq := vm_q hV hn hll hP hM
    have g1 := s5 _ _ f1
    have g2 := s5 _ _ f2
    refine ⟨_, rfl, x, C, dx, _, _, rfl, g1, PC.cl, PC.nI, mf_I _ _ _ _ _, _, rfl, x, C, dx, _, _, rfl, g1, PC.cl, PC.nO, mf_O _ _ _ _ _, _, rfl, x, C, dx, _, _, rfl, g1, PC.cl, PC.nL, mf_L _ _ _ _ _, _, rfl, x, C, dx, _, _, rfl, g1, PC.cl, PC.no, mf_o _ _ _ _ _, _, rfl, fun y dy hy hdy hne => ?_⟩
    have s6 : Same H5 (upd (upd H5 dy (.own y)) y (.ins C dy [])) := fun b o hb => by
      have n1 : b ≠ y := fun z => by rw [z, hy] at hb; cases hb
      have n2 : b ≠ dy := fun z => by rw [z, hdy] at hb; cases hb
      rw [upd_ne n1, upd_ne n2]
      exact hb
    refine ⟨y, ot, W, dy, (l : Int), O, L, op, ws, _, rfl, upd_same, .inr (s6 _ _ g2), ⟨s6 _ _ eW, hRP.same s6⟩, by omega, by rw [cells_len]; exact hMl, fun r hr => ?_, fun c => absurd hVq c, fun _ H7 k7 P7 => ⟨rfl, ?_⟩⟩
    · have := hVq.w r hr
      omega
    · have s7 : Same H5 H7 := fun b o hb => by
        have n1 : b ≠ y := fun z => by rw [z, hy] at hb; cases hb
        have n2 : b ≠ dy := fun z => by rw [z, hdy] at hb; cases hb
        refine k7 _ _ n1 ?_
        rw [upd_ne n1, upd_ne n2]
        exact hb
      exact q H7 y (ext_trans x03 (ext_of (s5.trans s7))) (hTb3.ext (s5.trans s7)) P7
/-! the law's own table of alike states -/
def eB (lab : Nat → List Int) (mv : Nat → Nat → Nat) (l : Nat) : Nat → Nat → Nat → Bool
  | 0, _, _ => true
  | t + 1, i, j => (List.range l).all fun a => decide ((lab i).getD a 0 = (lab j).getD a 0) && eB lab mv l t (mv i a) (mv j a)
theorem lab_ext {lab : Nat → List Int} {l i j : Nat} (h1 : (lab i).length = l) (h2 : (lab j).length = l) : lab i = lab j ↔ ∀ a, a < l → (lab i).getD a 0 = (lab j).getD a 0 := by
  refine ⟨fun h a _ => by rw [h], fun h => List.ext_getElem? fun a => ?_⟩
  rcases Nat.lt_or_ge a l with c | c
  · have := h a c
    rw [List.getD_eq_getElem?_getD, List.getD_eq_getElem?_getD] at this
    rw [List.getElem?_eq_getElem (by rw [h1]; exact c), List.getElem?_eq_getElem (by rw [h2]; exact c)] at this ⊢
    exact congrArg some this
  · rw [List.getElem?_eq_none (by rw [h1]; exact c), List.getElem?_eq_none (by rw [h2]; exact c)]
theorem ek_lift {κ : Type} {lab : Nat → κ} {mv : Nat → Nat → Nat} {l : Nat} : ∀ (t i j : Nat), lab i = lab j → (∀ a, a < l → Mo.Ek lab mv l t (mv i a) (mv j a)) → Mo.Ek lab mv l t i j
  | 0, _, _, h, _ => h
  | t + 1, i, j, h, k => ⟨ek_lift t i j h fun a ha => (k a ha).1, fun a ha => (k a ha).1⟩
theorem eB_iff {lab : Nat → List Int} {mv : Nat → Nat → Nat} {l n : Nat} (hl : ∀ i, i < n → (lab i).length = l) (hc : ∀ i a, i < n → a < l → mv i a < n) : ∀ (t i j : Nat), i < n → j < n → (eB lab mv l (t + 1) i j = true ↔ Mo.Ek lab mv l t i j)
  | 0, i, j, hi, hj => by
    show ((List.range l).all fun a => decide ((lab i).getD a 0 = (lab j).getD a 0) && true) = true ↔ lab i = lab j
    rw [lab_ext (hl i hi) (hl j hj), List.all_eq_true]
    exact ⟨fun h a ha => by have := h a (List.mem_range.mpr ha); simpa using this, fun h a ha => by have := h a (List.mem_range.mp ha); simpa using this⟩
  | t + 1, i, j, hi, hj => by
    show ((List.range l).all fun a => decide ((lab i).getD a 0 = (lab j).getD a 0) && eB lab mv l (t + 1) (mv i a) (mv j a)) = true ↔ (Mo.Ek lab mv l t i j ∧ ∀ a, a < l → Mo.Ek lab mv l t (mv i a) (mv j a))
    rw [List.all_eq_true]
    constructor
    · intro h
      have h1 : ∀ a, a < l → (lab i).getD a 0 = (lab j).getD a 0 ∧ Mo.Ek lab mv l t (mv i a) (mv j a) := fun a ha => by
        have := h a (List.mem_range.mpr ha)
        rw [Bool.and_eq_true, decide_eq_true_iff] at this
        exact ⟨this.1, (eB_iff hl hc t _ _ (hc i a hi ha) (hc j a hj ha)).mp this.2⟩
      exact ⟨ek_lift t i j ((lab_ext (hl i hi) (hl j hj)).mpr fun a ha => (h1 a ha).1) fun a ha => (h1 a ha).2, fun a ha => (h1 a ha).2⟩
    · rintro ⟨h1, h2⟩ a ha
      have ha := List.mem_range.mp ha
      rw [Bool.and_eq_true, decide_eq_true_iff]
      exact ⟨(lab_ext (hl i hi) (hl j hj)).mp (Mo.ek_le lab mv l (Nat.zero_le t) h1) a ha, (eB_iff hl hc t _ _ (hc i a hi ha) (hc j a hj ha)).mpr (h2 a ha)⟩
/-- a table of bools -/
def BbL (H : Hp) (r : Addr) (n m : Nat) (e : Nat → Nat → Bool) : Prop := ∃ as : List Addr, H r = some (.lst (as.map V.ref)) ∧ as.length = m ∧ ∀ (i : Nat) (a : Addr), as[i]? = some a → a ≠ r ∧ H a = some (.lst (((List.range n).map (e i)).map V.bl))
theorem BbL.same {H H' : Hp} {r : Addr} {n m : Nat} {e : Nat → Nat → Bool} (s : Same H H') (h : BbL H r n m e) : BbL H' r n m e := by
  obtain ⟨as, h1, h2, h3⟩ := h
  exact ⟨as, s _ _ h1, h2, fun i a z => ⟨(h3 i a z).1, s _ _ (h3 i a z).2⟩⟩
theorem bbl_snoc {H H' : Hp} {D D2 : Addr} {n i : Nat} {e : Nat → Nat → Bool} (h : BbL H D n i e) (s : Same H H') (h2 : H' D2 = some (.lst (((List.range n).map (e i)).map V.bl))) (nd : D2 ≠ D) : ∃ acc : List V, H' D = some (.lst acc) ∧ acc.length = i ∧ BbL (upd H' D (.lst (acc ++ [.ref D2]))) D n (i + 1) e := by
  obtain ⟨as, h1, hl, h3⟩ := h.same s
  refine ⟨as.map V.ref, h1, by rw [List.length_map]; exact hl, as ++ [D2], by rw [upd_same, List.map_append]; rfl, by rw [List.length_append, hl]; rfl, fun j a z => ?_⟩
  rcases snocg z with ⟨_, y⟩ | ⟨y1, y2⟩
  · obtain ⟨q1, q2⟩ := h3 j a y
    exact ⟨q1, by rw [upd_ne q1]; exact q2⟩
  · rw [y2, y1, hl]
    exact ⟨nd, by rw [upd_ne nd]; exact h2⟩
abbrev lScope : Scope := { kind := .function, names := [(".0", .local), ("j", .local), ("range", .globalImplicit), ("count", .cell)], isGenerator := false, isCoroutine := false }
def spLal : Sp := fun vs H Q _ => ∃ (r : Addr) (as : List Addr) (lab : Nat → List Int) (mv : Nat → Nat → Nat) (l n : Nat), vs = [.ref r] ∧ LPr H r as (cells lab mv l n) ∧ 0 < n ∧ n ≤ 100 ∧ l ≤ 100 ∧ (∀ i a, i < n → a < l → mv i a < n) ∧
  ∀ (H' : Hp) (c : Addr), Same H H' → BbL H' c n n (eB lab mv l (n + 1)) → Q (.ref c) H'
theorem cal_lal (T : Txt K mg cA0 PA0) : C8.Cal P w K mg base 1 "_law_alike" spLal [] := by
  obtain ⟨f, fd, F, hm, hb⟩ := T.h_law_alike
  refine ⟨f, fd, _, [], F.ok sc_law_alike (fun vs H Q E h => ?_) (fun cdv A outer s H vs Q E hr h => ?_), hm, F.kp, hb, .nil⟩
  · obtain ⟨r, as, lab, mv, l, n, rfl, _⟩ := h
    rfl
  · obtain ⟨r, as, lab, mv, l, n, rfl, ⟨er, hR⟩, hn, hn2, hl2, hc, q⟩ := h
    refine ⟨_, (pss_cons
      (ps_set (i := 1) sc_law_alike.nd rfl (Or.inr rfl) (pe_callB (call_lenK (K := K) rfl) (by rfl) T.z_len PySem.boot_len (pa_cons (pv 0) pa_nil)))
      (pss_cons
      (ps_setLc (i := 2) (own := [("j", 5)]) (g := gName 5) (tt := tYes) rfl sc_law_alike.nd rfl rfl (sw_true rfl rfl rfl (by decide +kernel)) (pi_range1 (by rfl) T.z_range (pa_cons (pv 1) pa_nil)) (blkOk_by (N := N_law_alike) (sc := defScope s_law_alike) (by decide +kernel)) (fun _ _ _ _ _ => (pg_name (i := 5) sc_law_alike.nd rfl (by first | exact Or.inl rfl | exact Or.inr rfl))) (fun _ _ _ _ _ => pts_nil) (fun _ _ _ _ _ => (pe_lc (own := [("k", 7)]) (g := gName 7) (tt := tYes) rfl sc_law_alike.nd (pi_range1 (by rfl) T.z_range (pa_cons (pv 1) pa_nil)) (blkOk_by (N := N_law_alike) (sc := lScope) (by decide +kernel)) (fun _ _ _ _ _ => (pg_name (i := 7) sc_law_alike.nd rfl (Or.inl rfl))) (fun _ _ _ _ _ => pts_nil) (fun _ _ _ _ _ => pe_bl))))
      (pss_cons
      (ps_for PassesOwn.never rfl (pi_range1 (by rfl) T.z_range (pa_cons (pe_op op_add (pv 1) pe_int) pa_nil)) (pg_name (i := 3) sc_law_alike.nd rfl (.inl rfl)) (pss_cons
      (ps_set (i := 4) sc_law_alike.nd rfl (Or.inl rfl) (pe_lst pa_nil))
      (pss_cons
      (ps_for PassesOwn.never rfl (pi_range1 (by rfl) T.z_range (pa_cons (pv 1) pa_nil)) (pg_name (i := 5) sc_law_alike.nd rfl (.inl rfl)) (pss_cons
      (ps_set (i := 6) sc_law_alike.nd rfl (Or.inl rfl) (pe_lst pa_nil))
      (pss_cons
      (ps_for PassesOwn.never rfl (pi_range1 (by rfl) T.z_range (pa_cons (pv 1) pa_nil)) (pg_name (i := 7) sc_law_alike.nd rfl (.inl rfl)) (pss_cons
      (ps_set (i := 8) sc_law_alike.nd rfl (Or.inl rfl) pe_bl)
      (pss_cons
      (ps_for PassesOwn.never rfl (pi_range1 (by rfl) T.z_range (pa_cons (pe_callB (call_lenK (K := K) rfl) (by rfl) T.z_len PySem.boot_len (pa_cons (pe_ix (ix_listK (K := K) rfl) (pv 0) pe_int (fun _ _ => rfl)) pa_nil)) pa_nil)) (pg_name (i := 9) sc_law_alike.nd rfl (.inl rfl)) (pss_cons
      (ps_set (i := 10) sc_law_alike.nd rfl (Or.inl rfl) (pe_ix (ix_listK (K := K) rfl) (pe_ix (ix_listK (K := K) rfl) (pv 0) (pv 5) (fun _ _ => rfl)) (pv 9) (fun _ _ => rfl)))
      (pss_cons
      (ps_set (i := 11) sc_law_alike.nd rfl (Or.inl rfl) (pe_ix (ix_listK (K := K) rfl) (pe_ix (ix_listK (K := K) rfl) (pv 0) (pv 7) (fun _ _ => rfl)) (pv 9) (fun _ _ => rfl)))
      (pss_one
      (ps_set (i := 8) sc_law_alike.nd rfl (Or.inl rfl) (pe_and (pv 8) (pe_and (pe_cmpR op_eq (pe_ix (ix_tupK (K := K) rfl) (pv 10) pe_int (fun _ _ => rfl)) (pe_ix (ix_tupK (K := K) rfl) (pv 11) pe_int (fun _ _ => rfl)) (nomark _)) (pe_one (pe_ix (ix_listK (K := K) rfl) (pe_ix (ix_listK (K := K) rfl) (pv 2) (pe_ix (ix_tupK (K := K) rfl) (pv 10) pe_int (fun _ _ => rfl)) (fun _ _ => rfl)) (pe_ix (ix_tupK (K := K) rfl) (pv 11) pe_int (fun _ _ => rfl)) (fun _ _ => rfl))))))))))
      (pss_one
      (ps_expr (pe_bm PySem.F.plainAttrs_list PySem.F.slot_list_append PySem.F.type_list_append mt_append (pv 6) (pa_cons (pv 8) pa_nil)))))))
      (pss_one
      (ps_expr (pe_bm PySem.F.plainAttrs_list PySem.F.slot_list_append PySem.F.type_list_append mt_append (pv 4) (pa_cons (pv 6) pa_nil)))))))
      (pss_one
      (ps_set (i := 2) sc_law_alike.nd rfl (Or.inl rfl) (pv 4))))))
      (pss_one
      (ps_ret (pv 2)))))), ?_⟩
    have hal : (as.map V.ref).length = n := by rw [List.length_map, hR.len, cells_len]
    have hga : ∀ {i : Nat}, i < n → ∃ (a : Addr) (bs : List Addr), as[i]? = some a ∧ H a = some (.lst (bs.map V.ref)) ∧ bs.length = l ∧ ∀ {j : Nat}, j < l → ∃ b, bs[j]? = some b ∧ H b = some (.tup [VN (mv i j), .int ((lab i).getD j 0)]) := fun {i} hi => by
      obtain ⟨a, ha⟩ : ∃ a, as[i]? = some a := ⟨_, List.getElem?_eq_getElem (by rw [hR.len, cells_len]; exact hi)⟩
      obtain ⟨bs, row, h1, h2, h3, h4⟩ := hR.g i a ha
      rw [cells_get hi] at h1
      obtain rfl := Option.some.inj h1
      have hbl : bs.length = l := by rw [h3, List.length_map, List.length_range]
      refine ⟨a, bs, ha, h2, hbl, fun {j} hj => ?_⟩
      obtain ⟨b, hb⟩ : ∃ b, bs[j]? = some b := ⟨_, List.getElem?_eq_getElem (by rw [hbl]; exact hj)⟩
      obtain ⟨t, u, h5, h6⟩ := h4 j b hb
      rw [rng_get hj] at h5
      cases h5
      exact ⟨b, hb, h6⟩
    have hbg : ∀ {e : Nat → Bool} {i : Nat}, i < n → ((List.range n).map e)[i]? = some (e i) := fun {e i} hi => rng_get hi
    refine ⟨_, rfl, r, _, rfl, .inl (.of er), ?_⟩
    rw [hal]
    refine ⟨_, rfl, _, rfl, by omega, by omega, fun D nD => ?_⟩
    refine lc_range (lo := 0) (n := n) (fun i H' => Same H H' ∧ BbL H' D n i (eB lab mv l 0)) ⟨same_new nD, [], upd_same, rfl, fun i a e => by (cases e)⟩ ?_ ?_
    · rintro i H1 hi ⟨s1, hB⟩
      rw [Int.zero_add]
      refine ⟨rfl, _, rfl, _, rfl, by omega, by omega, fun D2 nD2 => ?_⟩
      refine lc_range (lo := 0) (n := n) (fun j H' => Same H1 H' ∧ H' D2 = some (.lst (((List.range j).map (eB lab mv l 0 i)).map V.bl))) ⟨same_new nD2, upd_same⟩ ?_ ?_
      · rintro j H2 hj ⟨s2, e2⟩
        rw [Int.zero_add]
        refine ⟨rfl, _, e2, ?_, ?_, ?_⟩
        · rw [List.length_map, List.length_map, List.length_range]
          exact Nat.lt_of_le_of_lt (show j ≤ 100 by omega) (by decide)
        · intro q o e
          rw [upd_ne (ne_of_none e nD2)]
          exact s2 _ _ e
        · rw [upd_same, List.range_succ, List.map_append, List.map_append]
          rfl
      · rintro H2 ⟨s2, e2⟩
        have nDD : D2 ≠ D := fun z => by obtain ⟨_, h1, _⟩ := hB; rw [z, h1] at nD2; cases nD2
        obtain ⟨acc, h1, h2, h3⟩ := bbl_snoc hB s2 e2 nDD
        refine ⟨acc, h1, by rw [h2]; exact Nat.lt_of_le_of_lt (show i ≤ 100 by omega) (by decide), fun q o e => ?_, h3⟩
        rw [upd_ne (ne_of_none e nD)]
        exact s2 _ _ (s1 _ _ e)
    rintro H1 ⟨s1, hB⟩
    refine ⟨_, rfl, _, _, rfl, rfl, _, rfl, by omega, by omega, ?_⟩
    refine for_range (lo := 0) (n := n + 1) (fun t σ H' => ∃ (c : Addr) (v3 v4 v5 v6 v7 v8 v9 v10 v11 : Option V), σ = [some (.ref r), some (VN n), some (.ref c), v3, v4, v5, v6, v7, v8, v9, v10, v11] ∧ Same H H' ∧ BbL H' c n n (eB lab mv l t))
      ⟨D, none, none, none, none, none, none, none, none, none, rfl, s1, hB⟩ ?_ ?_
    · clear hB s1 nD
      rintro t σ H2 ht ⟨c, v3, v4, v5, v6, v7, v8, v9, v10, v11, rfl, s2, hB⟩
      rw [Int.zero_add]
      refine ⟨Nat.zero_le _, fun A nA => ?_⟩
      generalize hX : upd H2 A _ = H3; obtain ⟨sH3, eA⟩ := nw nA hX; clear hX
      refine ⟨_, rfl, _, rfl, by omega, by omega, ?_⟩
      refine for_range (lo := 0) (n := n) (fun j σ H' => ∃ (v5 v6 v7 v8 v9 v10 v11 : Option V), σ = [some (.ref r), some (VN n), some (.ref c), some (VN t), some (.ref A), v5, v6, v7, v8, v9, v10, v11] ∧ Same H2 H' ∧ BbL H' A n j (eB lab mv l (t + 1)))
        ⟨v5, v6, v7, v8, v9, v10, v11, rfl, sH3, [], eA, rfl, fun i a e => by (cases e)⟩ ?_ ?_
      · clear sH3 eA H3
        rintro j σ H3 hj ⟨v5, v6, v7, v8, v9, v10, v11, rfl, s3, hA⟩
        rw [Int.zero_add]
        refine ⟨Nat.zero_le _, fun R nR => ?_⟩
        generalize hX : upd H3 R _ = H4; obtain ⟨sH4, eR⟩ := nw nR hX; clear hX
        have nRA : R ≠ A := fun z => by obtain ⟨_, h1, _⟩ := hA; rw [z, h1] at nR; cases nR
        refine ⟨_, rfl, _, rfl, by omega, by omega, ?_⟩
        refine for_range (lo := 0) (n := n) (fun k σ H' => ∃ (v7 v8 v9 v10 v11 : Option V), σ = [some (.ref r), some (VN n), some (.ref c), some (VN t), some (.ref A), some (VN j), some (.ref R), v7, v8, v9, v10, v11] ∧ Same H3 H' ∧ H' R = some (.lst (((List.range k).map (eB lab mv l (t + 1) j)).map V.bl)))
          ⟨v7, v8, v9, v10, v11, rfl, sH4, eR⟩ ?_ ?_
        · clear sH4 eR H4
          rintro k σ H4 hk ⟨v7, v8, v9, v10, v11, rfl, s4, eR⟩
          rw [Int.zero_add]
          have s24 := s3.trans s4
          have s04 := s2.trans s24
          obtain ⟨cs, ec, hcs, hcr⟩ := hB.same s24
          have hcg : ∀ {i j : Nat}, i < n → j < n → ∃ a, cs[i]? = some a ∧ H4 a = some (.lst (((List.range n).map (eB lab mv l t i)).map V.bl)) := fun {i j} hi hj => by
            obtain ⟨a, ha⟩ : ∃ a, cs[i]? = some a := ⟨_, List.getElem?_eq_getElem (by rw [hcs]; exact hi)⟩
            exact ⟨a, ha, (hcr i a ha).2⟩
          obtain ⟨a0, bs0, ha0, ea0, hl0, _⟩ := hga hn
          obtain ⟨aj, bsj, haj, eaj, _, hbj⟩ := hga hj
          obtain ⟨ak, bsk, hak, eak, _, hbk⟩ := hga hk
          have hl0 : (bs0.map V.ref).length = l := by rw [List.length_map, hl0]
          refine ⟨_, rfl, r, _, _, .ref a0, rfl, rfl, .of (s04 _ _ er), atN (i := 0) ha0, a0, _, rfl, .inl (.of (s04 _ _ ea0)), _, rfl, by rw [hl0]; omega, by rw [hl0]; omega, ?_⟩
          rw [hl0]
          let body : Nat → Bool := fun a => decide ((lab j).getD a 0 = (lab k).getD a 0) && eB lab mv l t (mv j a) (mv k a)
          refine for_range (lo := 0) (n := l) (fun m σ H' => ∃ (v9 v10 v11 : Option V), σ = [some (.ref r), some (VN n), some (.ref c), some (VN t), some (.ref A), some (VN j), some (.ref R), some (VN k), some (.bl ((List.range m).all body)), v9, v10, v11] ∧ H' = H4)
            ⟨v9, v10, v11, rfl, rfl⟩ ?_ ?_
          · rintro m σ H5 hm ⟨v9, v10, v11, rfl, rfl⟩
            rw [Int.zero_add]
            obtain ⟨bj, hbj1, ebj⟩ := hbj hm
            obtain ⟨bk, hbk1, ebk⟩ := hbk hm
            have ebj5 := s04 _ _ ebj
            have ebk5 := s04 _ _ ebk
            refine ⟨_, rfl, _, rfl, r, _, _, .ref aj, rfl, rfl, .of (s04 _ _ er), atN haj, _, rfl, aj, _, _, .ref bj, rfl, rfl, .of (s04 _ _ eaj), atN hbj1, ?_⟩
            refine ⟨_, rfl, _, rfl, r, _, _, .ref ak, rfl, rfl, .of (s04 _ _ er), atN hak, _, rfl, ak, _, _, .ref bk, rfl, rfl, .of (s04 _ _ eak), atN hbk1, ?_⟩
            have hsp : (List.range (m + 1)).all body = ((List.range m).all body && body m) := by
              rw [List.range_succ, List.all_append]
              simp
            have hst : ∀ b : Bool, b = (List.range (m + 1)).all body → ∃ (v9 v10 v11 : Option V), [some (.ref r), some (VN n), some (.ref c), some (VN t), some (.ref A), some (VN j), some (.ref R), some (VN k), some (.bl b), some (VN m), some (.ref bj), some (.ref bk)] = [some (V.ref r), some (VN n), some (.ref c), some (VN t), some (.ref A), some (VN j), some (.ref R), some (VN k), some (.bl ((List.range (m + 1)).all body)), v9, v10, v11] ∧ H5 = H5 := fun b hb => ⟨some (VN m), some (.ref bj), some (.ref bk), by rw [hb], rfl⟩
            refine ⟨_, rfl, _, rfl, ?_⟩
            cases hb : (List.range m).all body with
            | false =>
              rw [if_neg Bool.false_ne_true]
              exact hst false (by rw [hsp, hb]; rfl)
            | true =>
              rw [if_pos rfl]
              refine ⟨_, rfl, bj, _, _, .int ((lab j).getD m 0), rfl, rfl, .of ebj5, rfl, _, rfl, bk, _, _, .int ((lab k).getD m 0), rfl, rfl, .of ebk5, rfl, rfl, _, rfl, ?_⟩
              by_cases hem : (lab j).getD m 0 = (lab k).getD m 0
              · have hjm := hc j m hj hm
                have hkm := hc k m hk hm
                obtain ⟨cm, hcm, ecm⟩ := hcg hjm hkm
                rw [hem, decide_eq_true rfl, if_pos rfl]
                refine ⟨_, rfl, _, rfl, bj, _, _, VN (mv j m), rfl, rfl, .of ebj5, rfl, c, _, _, .ref cm, rfl, rfl, .of ec, atN hcm, _, rfl, bk, _, _, VN (mv k m), rfl, rfl, .of ebk5, rfl, cm, _, _, .bl (eB lab mv l t (mv j m) (mv k m)), rfl, rfl, .of ecm, atN (hbg hkm), ?_⟩
                exact hst _ (by rw [hsp, hb, Bool.true_and]; show _ = (decide _ && _); rw [decide_eq_true hem, Bool.true_and])
              · rw [decide_eq_false (fun z => hem (V.int.inj z)), if_neg Bool.false_ne_true]
                exact hst false (by rw [hsp, hb, Bool.true_and]; show _ = (decide _ && _); rw [decide_eq_false hem, Bool.false_and])
          · rintro σ H5 ⟨v9, v10, v11, rfl, rfl⟩
            refine ⟨_, rfl, .inl ⟨rfl, _, .of eR⟩, _, rfl, R, _, _, rfl, rfl, eR, ?_, ?_⟩
            · rw [List.length_map, List.length_map, List.length_range]
              exact Nat.lt_of_le_of_lt (show k ≤ 100 by omega) (by decide)
            · refine ⟨_, _, _, _, _, rfl, fun q o e => ?_, ?_⟩
              · rw [upd_ne (ne_of_none e nR)]
                exact s4 _ _ e
              · rw [upd_same, List.range_succ, List.map_append, List.map_append]
                rfl
        · rintro σ H4 ⟨v7, v8, v9, v10, v11, rfl, s4, eR⟩
          obtain ⟨acc, h1, h2, h3⟩ := bbl_snoc hA s4 eR nRA
          refine ⟨_, rfl, .inl ⟨rfl, _, .of h1⟩, _, rfl, A, _, _, rfl, rfl, h1, by rw [h2]; exact Nat.lt_of_le_of_lt (show j ≤ 100 by omega) (by decide), ?_⟩
          refine ⟨_, _, _, _, _, _, _, rfl, fun q o e => ?_, h3⟩
          rw [upd_ne (ne_of_none e nA)]
          exact s4 _ _ (s3 _ _ e)
      · rintro σ H3 ⟨v5, v6, v7, v8, v9, v10, v11, rfl, s3, hA⟩
        exact ⟨_, rfl, A, _, _, _, _, _, _, _, _, _, rfl, s2.trans s3, hA⟩
    · rintro σ H2 ⟨c, v3, v4, v5, v6, v7, v8, v9, v10, v11, rfl, s2, hB⟩
      exact ⟨_, rfl, q H2 c s2 hB⟩
theorem op_inK {X : Cx} {K : PySem.W.Frag} (h : X.K = K) : OpR X (compareOp .In) (rIn K false) := by
  subst h
  exact op_in_seq
theorem op_notInK {X : Cx} {K : PySem.W.Frag} (h : X.K = K) : OpR X (compareOp .NotIn) (rIn K true) := by
  subst h
  exact op_notIn_seq
theorem mt_indexK {X : Cx} {K : PySem.W.Frag} (h : X.K = K) : MtR X "list.index" (rIndex K) := by
  subst h
  exact mt_index
theorem pe_bmK {X : Cx} {K : PySem.W.Frag} (hK : X.K = K) {o e : Expr} {es : List Expr} {to : TE} {t : TA} {name : Str} {apos cpos : Pos} {T id : String} {r : V → List V → Hp → VK → Prop} (pa : PlainAttrs T) (slot : Slot T name id) (hty : typeOf (Value.builtin id) = pure (Value.type "method_descriptor")) (hm : MtR X id r) (ho : PE X o to) (ha : PA X (e :: es) t)
    (hbase : attributeBase o name X.env (eval o X.env) = eval o X.env := by rfl)
    (hfew : ((backTo cpos (starEach (e :: es) X.env)).all (fun x => !x.1) && (backToKw cpos (keywordEach [] X.env)).all (fun x => x.1.isSome)
      && decide ((e :: es).length + ([] : List Keyword).length + (if ([] : List Keyword).isEmpty then 0 else 1) < 30)) = true := by rfl)
    (hline : (apos.endLine == cpos.line) = true := by rfl) (hs : starEach (e :: es) X.env = (false, eval e X.env) :: starEach es X.env := by rfl) (hplain : (backTo cpos (starEach es X.env)).any (·.1) = false := by rfl) :
    PE X (.Call (.Attribute o name apos) (e :: es) [] cpos) (tBM K T r to t) := by
  subst hK
  exact pe_bm pa slot hty hm ho ha hbase hfew hline hs hplain
/-! the law's quotient -/
theorem in_nats (k : Nat) (ns : List Nat) : inV (VN k) (ns.map VN) = decide (k ∈ ns) := by
  induction ns with
  | nil => simp [inV]
  | cons n ns ih =>
    unfold inV at ih ⊢
    rw [List.map_cons, List.any_cons, ih]
    show (((n : Int) == (k : Int)) || _) = _
    by_cases c : n = k
    · subst c
      simp
    · have c2 : k ≠ n := fun z => c z.symm
      have c3 : ¬ ((n : Int) = (k : Int)) := fun z => c (Int.ofNat.inj z)
      simp [c2, c3]
theorem flat_nats (ns : List Nat) : (ns.map VN).all flatV = true := by
  rw [List.all_eq_true]
  intro x hx
  obtain ⟨n, _, rfl⟩ := List.mem_map.mp hx
  rfl
theorem flat_bls (bs : List Bool) : (bs.map V.bl).all flatV = true := by
  rw [List.all_eq_true]
  intro x hx
  obtain ⟨n, _, rfl⟩ := List.mem_map.mp hx
  rfl
theorem eqv_nat {a b : Nat} : eqV (VN a) (VN b) = decide (a = b) := by
  show ((a : Int) == (b : Int)) = _
  by_cases c : a = b
  · subst c; simp
  · have c3 : ¬ ((a : Int) = (b : Int)) := fun z => c (Int.ofNat.inj z)
    simp [c, c3]
theorem eqv_bl {a b : Bool} : eqV (.bl a) (.bl b) = decide (a = b) := by cases a <;> cases b <;> rfl
theorem idx_before {α : Type} [DecidableEq α] {xs : List α} {x : α} {m : Nat} {z : α} (hm : m < xs.idxOf x) (hz : xs[m]? = some z) : z ≠ x := fun e => by
  subst e
  have hl := (List.getElem?_eq_some_iff.mp hz).1
  have e2 : xs[m] = z := (List.getElem?_eq_some_iff.mp hz).2
  have h3 := List.not_of_lt_findIdx (p := (· == z)) (xs := xs) (i := m) hm
  simp [e2] at h3
theorem index_nat {H : Hp} {a : Addr} {ns : List Nat} {k : Nat} {Q : VK} (h : H a = some (.lst (ns.map VN))) (hk : k ∈ ns) (q : Q (VN (ns.idxOf k)) H) : rIndex K (.ref a) [VN k] H Q :=
  ⟨a, _, _, ns.idxOf k, VN k, rfl, rfl, .of h, rfl, flat_nats ns, by rw [List.getElem?_map, Bq.get_idx hk]; rfl, by rw [eqv_nat]; exact decide_eq_true rfl, fun m z' hm hz => by
    obtain ⟨z, hz2, rfl⟩ := mapg hz
    rw [eqv_nat]
    exact decide_eq_false (idx_before hm hz2), q⟩
theorem index_bl {H : Hp} {a : Addr} {bs : List Bool} {Q : VK} (h : H a = some (.lst (bs.map V.bl))) (hk : true ∈ bs) (q : Q (VN (bs.idxOf true)) H) : rIndex K (.ref a) [.bl true] H Q :=
  ⟨a, _, _, bs.idxOf true, .bl true, rfl, rfl, .of h, rfl, flat_bls bs, by rw [List.getElem?_map, Bq.get_idx hk]; rfl, by rw [eqv_bl]; exact decide_eq_true rfl, fun m z' hm hz => by
    obtain ⟨z, hz2, rfl⟩ := mapg hz
    rw [eqv_bl]
    exact decide_eq_false (idx_before hm hz2), q⟩
/-- the least one alike -/
def fEk (e : Nat → Nat → Bool) (n i : Nat) : Nat := ((List.range n).map (e i)).idxOf true
theorem fEk_pickG {κ : Type} {lab : Nat → κ} {mv : Nat → Nat → Nat} {l n : Nat} {e : Nat → Nat → Bool} (hc : ∀ i a, i < n → a < l → mv i a < n) (he : ∀ i j, i < n → j < n → (e i j = true ↔ Bq.Al lab mv l n i j)) : Bq.Pick lab mv l n (fEk e n) ∧ ∀ i, i < n → true ∈ (List.range n).map (e i) := by
  have mem : ∀ i, i < n → true ∈ (List.range n).map (e i) := fun i hi => List.mem_map.mpr ⟨i, List.mem_range.mpr hi, (he i i hi hi).mpr (Mo.ek_refl _ _ _ _ _)⟩
  have fl : ∀ i, i < n → fEk e n i < n := fun i hi => by
    have := List.idxOf_lt_length_iff.mpr (mem i hi)
    rw [List.length_map, List.length_range] at this
    exact this
  have fe1 : ∀ i, i < n → Bq.Al lab mv l n i (fEk e n i) := fun i hi => by
    have h1 := Bq.get_idx (mem i hi)
    have h2 : ((List.range n).map (e i))[fEk e n i]? = some true := h1
    rw [List.getElem?_map, List.getElem?_range (fl i hi)] at h2
    exact (he _ _ hi (fl i hi)).mp (Option.some.inj h2)
  have fp : ∀ i, i < n → fEk e n i < n ∧ Bq.Al lab mv l n (fEk e n i) i := fun i hi => ⟨fl i hi, Mo.ek_symm _ _ _ _ (fe1 i hi)⟩
  refine ⟨⟨hc, fp, fun i j hi hj => ⟨fun e' => ?_, fun e' => ?_⟩⟩, mem⟩
  · have h1 := (fp i hi).2
    have h2 := (fp j hj).2
    rw [e'] at h1
    exact Mo.ek_trans _ _ _ _ (Mo.ek_symm _ _ _ _ h1) h2
  · unfold fEk
    congr 1
    refine List.map_congr_left fun k hk => ?_
    have hk := List.mem_range.mp hk
    rw [Bool.eq_iff_iff, he i k hi hk, he j k hj hk]
    exact ⟨fun h => Mo.ek_trans _ _ _ _ (Mo.ek_symm _ _ _ _ e') h, fun h => Mo.ek_trans _ _ _ _ e' h⟩
def spLle : Sp := fun vs H Q _ => ∃ (r : Addr) (as : List Addr) (lab : Nat → List Int) (mv : Nat → Nat → Nat) (l n : Nat), vs = [.ref r] ∧ LPr H r as (cells lab mv l n) ∧ 0 < n ∧ n ≤ 100 ∧ l ≤ 100 ∧ (∀ i, i < n → (lab i).length = l) ∧ (∀ i a, i < n → a < l → mv i a < n) ∧
  ∀ (H' : Hp) (t : Addr) (as' : List Addr) (M : List Nat), Same H H' → LPr H' t as' (qcells lab mv l (fEk (eB lab mv l (n + 1)) n) M) → Bq.OrdQ mv l 0 (fEk (eB lab mv l (n + 1)) n) M → Q (.ref t) H'
theorem cal_lle (T : Txt K mg cA0 PA0) : C8.Cal P w K mg base 2 "_law_least" spLle [] := by
  have C_law_alike : C8.Cal P w K mg base 1 "_law_alike" spLal [] := cal_lal T
  obtain ⟨f, fd, F, hm, hb⟩ := T.h_law_least
  refine ⟨f, fd, _, [], F.ok sc_law_least (fun vs H Q E h => ?_) (fun cdv A outer s H vs Q E hr h => ?_), hm, F.kp, hb, .nil⟩
  · obtain ⟨r, as, lab, mv, l, n, rfl, _⟩ := h
    rfl
  · obtain ⟨r, as, lab, mv, l, n, rfl, ⟨er, hR⟩, hn, hn2, hl2, hll, hc, q⟩ := h
    refine ⟨_, (pss_cons
      (ps_set (i := 1) sc_law_least.nd rfl (Or.inl rfl) (C8.pe_c C_law_alike hr (by decide) (by rfl) (pa_cons (pv 0) pa_nil)))
      (pss_cons
      (ps_set (i := 2) sc_law_least.nd rfl (Or.inr rfl) (pe_lc (own := [("row", 8)]) (g := gName 8) (tt := tYes) rfl sc_law_least.nd (pi_list (pv 1)) (blkOk_by (N := N_law_least) (sc := defScope s_law_least) (by decide +kernel)) (fun _ _ _ _ _ => (pg_name (i := 8) sc_law_least.nd rfl (Or.inl rfl))) (fun _ _ _ _ _ => pts_nil) (fun _ _ _ _ _ => (pe_bmK (K := K) rfl PySem.F.plainAttrs_list PySem.F.slot_list_index PySem.F.type_list_index (mt_indexK (K := K) rfl) (pv 8) (pa_cons pe_bl pa_nil)))))
      (pss_cons
      (ps_set (i := 3) sc_law_least.nd rfl (Or.inr rfl) (pe_lst (pa_cons (pe_ix (ix_listK (K := K) rfl) (pv 2) pe_int (fun _ _ => rfl)) pa_nil)))
      (pss_cons
      (ps_for PassesOwn.never rfl (pi_range1 (by rfl) T.z_range (pa_cons (pe_callB (call_lenK (K := K) rfl) (by rfl) T.z_len PySem.boot_len (pa_cons (pv 0) pa_nil)) pa_nil)) (pg_name (i := 4) sc_law_least.nd rfl (.inl rfl)) (pss_one
      (ps_if (pt_cmpR op_lt (pv 4) (pe_callB (call_lenK (K := K) rfl) (by rfl) T.z_len PySem.boot_len (pa_cons (pv 3) pa_nil)) (nomark _)) (pss_one
      (ps_for PassesOwn.never rfl (pi_list (pe_ix (ix_listK (K := K) rfl) (pv 0) (pe_ix (ix_listK (K := K) rfl) (pv 3) (pv 4) (fun _ _ => rfl)) (fun _ _ => rfl))) (pg_name (i := 5) sc_law_least.nd rfl (.inl rfl)) (pss_one
      (ps_if (pt_cmpR (op_notInK (K := K) rfl) (pe_ix (ix_listK (K := K) rfl) (pv 2) (pe_ix (ix_tupK (K := K) rfl) (pv 5) pe_int (fun _ _ => rfl)) (fun _ _ => rfl)) (pv 3) (by rfl)) (pss_one
      (ps_expr (pe_bm PySem.F.plainAttrs_list PySem.F.slot_list_append PySem.F.type_list_append mt_append (pv 3) (pa_cons (pe_ix (ix_listK (K := K) rfl) (pv 2) (pe_ix (ix_tupK (K := K) rfl) (pv 5) pe_int (fun _ _ => rfl)) (fun _ _ => rfl)) pa_nil)))) pss_nil)))) pss_nil)))
      (pss_cons
      (ps_set (i := 6) sc_law_least.nd rfl (Or.inl rfl) (pe_lst pa_nil))
      (pss_cons
      (ps_for PassesOwn.never rfl (pi_list (pv 3)) (pg_name (i := 7) sc_law_least.nd rfl (.inl rfl)) (pss_one
      (ps_expr (pe_bm PySem.F.plainAttrs_list PySem.F.slot_list_append PySem.F.type_list_append mt_append (pv 6) (pa_cons (pe_lc (own := [("pair", 5)]) (g := gName 5) (tt := tYes) rfl sc_law_least.nd (pi_list (pe_ix (ix_listK (K := K) rfl) (pv 0) (pv 7) (fun _ _ => rfl))) (blkOk_by (N := N_law_least) (sc := defScope s_law_least) (by decide +kernel)) (fun _ _ _ _ _ => (pg_name (i := 5) sc_law_least.nd rfl (Or.inl rfl))) (fun _ _ _ _ _ => pts_nil) (fun _ _ _ _ _ => (pe_tup (pa_cons (pe_bmK (K := K) rfl PySem.F.plainAttrs_list PySem.F.slot_list_index PySem.F.type_list_index (mt_indexK (K := K) rfl) (pv 3) (pa_cons (pe_ix (ix_listK (K := K) rfl) (pv 2) (pe_ix (ix_tupK (K := K) rfl) (pv 5) pe_int (fun _ _ => rfl)) (fun _ _ => rfl)) pa_nil)) (pa_cons (pe_ix (ix_tupK (K := K) rfl) (pv 5) pe_int (fun _ _ => rfl)) pa_nil))))) pa_nil)))))
      (pss_one
      (ps_ret (pv 6))))))))), ?_⟩
    refine ⟨_, rfl, r, as, lab, mv, l, n, rfl, ⟨er, hR⟩, hn, hn2, hl2, hc, fun H1 c s1 hB => ?_⟩
    obtain ⟨hP, hmem⟩ := fEk_pickG (lab := lab) (mv := mv) (l := l) (n := n) (e := eB lab mv l (n + 1)) hc (fun i j hi hj => eB_iff hll hc n i j hi hj)
    generalize hf : fEk (eB lab mv l (n + 1)) n = f at hP
    have hal : (as.map V.ref).length = n := by rw [List.length_map, hR.len, cells_len]
    have hga : ∀ {i : Nat}, i < n → ∃ (a : Addr) (bs : List Addr), as[i]? = some a ∧ H a = some (.lst (bs.map V.ref)) ∧ bs.length = l ∧ ∀ {j b}, bs[j]? = some b → j < l ∧ H b = some (.tup [VN (mv i j), .int ((lab i).getD j 0)]) := fun {i} hi => by
      obtain ⟨a, ha⟩ : ∃ a, as[i]? = some a := ⟨_, List.getElem?_eq_getElem (by rw [hR.len, cells_len]; exact hi)⟩
      obtain ⟨bs, row, h1, h2, h3, h4⟩ := hR.g i a ha
      rw [cells_get hi] at h1
      obtain rfl := Option.some.inj h1
      have hbl : bs.length = l := by rw [h3, List.length_map, List.length_range]
      refine ⟨a, bs, ha, h2, hbl, fun {j b} hb => ?_⟩
      have hj : j < l := by have := lt_of_get hb; omega
      obtain ⟨t, u, h5, h6⟩ := h4 j b hb
      rw [rng_get hj] at h5
      cases h5
      exact ⟨hj, h6⟩
    have hfg : ∀ {i : Nat}, i < n → ((List.range n).map f)[i]? = some (f i) := fun {i} hi => rng_get hi
    obtain ⟨cs, ec, hcs, hcr⟩ := id hB
    -- first
    refine ⟨_, rfl, c, rfl, ⟨_, .of ec⟩, fun Fa nF => lc_list (K := K) (a := c) (xs := cs.map V.ref) (fun i H' => Same H1 H' ∧ H' Fa = some (.lst (((List.range i).map f).map VN))) ⟨same_new nF, upd_same⟩ (fun j H' _ ⟨z, _⟩ => .of (z _ _ ec)) ?_ ?_⟩
    · rintro i v H2 hi ⟨s2, eF⟩
      obtain ⟨a, ha, rfl⟩ := refsg hi
      have hin : i < n := by have := lt_of_get ha; rwa [hcs] at this
      have ea := s2 _ _ (hcr i a ha).2
      refine ⟨rfl, _, rfl, .inl ⟨rfl, _, .of ea⟩, ?_⟩
      dsimp only [tCons, tC, tNil]
      refine index_bl ea (hmem i hin) ⟨_, eF, ?_, ?_, ?_⟩
      · rw [List.length_map, List.length_map, List.length_range]
        exact Nat.lt_of_le_of_lt (show i ≤ 100 by omega) (by decide)
      · intro q o e
        rw [upd_ne (ne_of_none e nF)]
        exact s2 _ _ e
      · rw [upd_same, List.range_succ, List.map_append, List.map_append, ← hf]
        rfl
    rintro H2 ⟨s2, eF⟩
    rw [List.length_map, hcs] at eF
    have s02 := s1.trans s2
    refine ⟨_, rfl, Fa, _, _, VN (f 0), rfl, rfl, .of eF, atN (i := 0) (hfg hn), by show 1 ≤ sizeLine; decide, fun O nO => ?_⟩
    have nO0 := nO
    generalize hX : upd H2 O _ = H3; obtain ⟨sH3, eO⟩ := nw nO hX; clear hX
    -- the order
    have hlf : ∀ {x}, x < n → f x < n := fun h => (hP.fp _ h).1
    let rq : Nat → List Nat := fun b => (Bq.rowM mv l b).map f
    have hrq : ∀ x, x < n → ∀ t ∈ rq x, t < n := fun x hx t ht => by
      obtain ⟨y, hy, rfl⟩ := List.mem_map.mp ht
      obtain ⟨a, ha, rfl⟩ := List.mem_map.mp hy
      exact hlf (hc x a hx (List.mem_range.mp ha))
    have hU : ∀ k, ∀ x ∈ Bq.GG (f 0) rq k, x < n := Bq.gg_in (U := (· < n)) (hlf hn) hrq
    have hGl : ∀ k, (Bq.GG (f 0) rq k).length ≤ n := fun k => by
      have := List.Nodup.length_le_of_subset (Bq.gg_nd (f 0) rq k) (l₂ := List.range n) fun x hx => List.mem_range.mpr (hU k x hx)
      rwa [List.length_range] at this
    have er3 := sH3 _ _ (s02 _ _ er)
    refine ⟨_, rfl, r, _, rfl, .inl (.of er3), _, rfl, by rw [hal]; omega, by rw [hal]; omega, ?_⟩
    rw [hal]
    refine for_range (lo := 0) (n := n) (fun i σ H' => ∃ (v4 v5 : Option V), σ = [some (.ref r), some (.ref c), some (.ref Fa), some (.ref O), v4, v5, none, none, none] ∧ Same H2 H' ∧ H' O = some (.lst ((Bq.GG (f 0) rq i).map VN)))
      ⟨none, none, rfl, sH3, eO⟩ ?_ ?_
    · clear eO sH3 er3 H3
      rintro i σ H3 hi ⟨v4, v5, rfl, s3, eO⟩
      rw [Int.zero_add]
      refine ⟨_, rfl, _, rfl, O, _, rfl, .inl (.of eO), _, _, rfl, rfl, _, rfl, ?_⟩
      rw [List.length_map]
      by_cases c0 : i < (Bq.GG (f 0) rq i).length
      · rw [decide_eq_true (by omega)]
        obtain ⟨x, hx⟩ : ∃ x, (Bq.GG (f 0) rq i)[i]? = some x := ⟨_, List.getElem?_eq_getElem c0⟩
        have hxn := hU i x (List.mem_of_getElem? hx)
        obtain ⟨a, bs, ha, ea, hbl, hbs⟩ := hga hxn
        have ea3 := s3 _ _ (s02 _ _ ea)
        have hGG : Bq.GG (f 0) rq (i + 1) = Bq.add (Bq.GG (f 0) rq i) (rq x) := Bq.gg_some hx
        refine iteB_t rfl ⟨_, rfl, _, rfl, _, rfl, O, _, _, VN x, rfl, rfl, .of eO, atN hx, r, _, _, .ref a, rfl, rfl, .of (s3 _ _ (s02 _ _ er)), atN ha, a, rfl, ⟨_, .of ea3⟩, for_list (K := K) (a := a) (xs := bs.map V.ref) (fun j σ H' => ∃ (v5 : Option V), σ = [some (.ref r), some (.ref c), some (.ref Fa), some (.ref O), some (VN i), v5, none, none, none] ∧ Same H2 H' ∧ H' O = some (.lst ((Bq.add (Bq.GG (f 0) rq i) ((rq x).take j)).map VN)))
          ⟨v5, rfl, s3, eO⟩ (fun j σ H' _ ⟨_, _, z, _⟩ => .of (z _ _ (s02 _ _ ea))) ?_ ?_⟩
        · clear eO s3 ea3
          rintro j v σ H4 hj ⟨v5, rfl, s4, eO⟩
          obtain ⟨b, hb, rfl⟩ := refsg hj
          obtain ⟨hjl, eb⟩ := hbs hb
          have eb4 := s4 _ _ (s02 _ _ eb)
          have htn := hc x j hxn hjl
          have htq : (rq x)[j]? = some (f (mv x j)) := by rw [List.getElem?_map, rng_get hjl]; rfl
          generalize mv x j = t at htn htq eb4
          have hnx : Bq.add (Bq.GG (f 0) rq i) ((rq x).take (j + 1)) = Bq.ad (Bq.add (Bq.GG (f 0) rq i) ((rq x).take j)) (f t) := by
            rw [List.take_add_one, htq, Bq.add_app]
            rfl
          generalize hN : Bq.add (Bq.GG (f 0) rq i) ((rq x).take j) = N at eO hnx
          have hNl : N.length ≤ n := by
            have h1 : N.Nodup := by rw [← hN]; exact Bq.nodup_add (Bq.gg_nd _ _ _)
            have := List.Nodup.length_le_of_subset h1 (l₂ := List.range n) fun y hy => List.mem_range.mpr (by
              rw [← hN] at hy
              rcases Bq.mem_add.mp hy with z | z
              · exact hU _ y z
              · exact hrq x hxn y (List.mem_of_mem_take z))
            rwa [List.length_range] at this
          have eF4 := s4 _ _ eF
          refine ⟨_, rfl, _, rfl, b, _, _, VN t, rfl, rfl, .of eb4, rfl, Fa, _, _, VN (f t), rfl, rfl, .of eF4, atN (hfg htn), _, rfl, O, _, rfl, .inl (.of eO), rfl, flat_nats N, ?_⟩
          refine ⟨_, rfl, ?_⟩
          rw [if_pos rfl, in_nats]
          by_cases cN : f t ∈ N
          · rw [decide_eq_true cN]
            exact iteB_f rfl ⟨_, rfl, s4, by rw [hnx, show Bq.ad N (f t) = N from if_pos cN]; exact eO⟩
          · rw [decide_eq_false cN]
            refine iteB_t rfl ⟨_, rfl, .inl ⟨rfl, _, .of eO⟩, _, rfl, _, rfl, b, _, _, VN t, rfl, rfl, .of eb4, rfl, Fa, _, _, VN (f t), rfl, rfl, .of eF4, atN (hfg htn), O, _, _, rfl, rfl, eO, by rw [List.length_map]; exact Nat.lt_of_le_of_lt (show N.length ≤ 100 by omega) (by decide), ?_⟩
            refine ⟨_, rfl, fun q o e => ?_, ?_⟩
            · rw [upd_ne (ne_of_none e nO)]
              exact s4 _ _ e
            · rw [upd_same, hnx, show Bq.ad N (f t) = N ++ [f t] from if_neg cN, List.map_append]
              rfl
        · rintro σ H4 ⟨v5, rfl, s4, eO⟩
          have e1 : (bs.map V.ref).length = (rq x).length := by rw [List.length_map, hbl]; show l = ((Bq.rowM mv l x).map f).length; rw [List.length_map, List.length_map, List.length_range]
          rw [e1, List.take_length, ← hGG] at eO
          exact ⟨_, _, rfl, s4, eO⟩
      · rw [decide_eq_false (by omega)]
        refine iteB_f rfl ⟨_, _, rfl, s3, ?_⟩
        rw [Bq.gg_none (List.getElem?_eq_none (by omega))]
        exact eO
    rintro σ H3 ⟨v4, v5, rfl, s3, eO⟩
    have hM : Bq.OrdQ mv l 0 f (Bq.GG (f 0) rq n) := Bq.gg_ord (hGl n)
    have hMl := hGl n
    have hMU := hU n
    generalize Bq.GG (f 0) rq n = M at hM hMl hMU eO
    clear hGl hU hrq
    -- the rows
    refine ⟨Nat.zero_le _, fun L nL => ?_⟩
    generalize hX : upd H3 L _ = H4; obtain ⟨sH4, eL⟩ := nw nL hX; clear hX
    refine ⟨_, rfl, O, rfl, ⟨_, .of (sH4 _ _ eO)⟩, for_list (K := K) (a := O) (xs := M.map VN) (fun i σ H' => ∃ (v5 v7 : Option V), σ = [some (.ref r), some (.ref c), some (.ref Fa), some (.ref O), v4, v5, some (.ref L), v7, none] ∧ Same H3 H' ∧ ∃ gs : List Addr, H' L = some (.lst (gs.map V.ref)) ∧ L ∉ gs ∧ RP .lst H' gs ((qcells lab mv l f M).take i))
      ⟨v5, none, rfl, sH4, [], eL, by simp, My.RP.nil⟩ (fun j σ H' _ ⟨_, _, _, z, _⟩ => .of (z _ _ eO)) ?_ ?_⟩
    · rintro i v σ H5 hi ⟨v5, v7, rfl, s5, gs, eL, nLg, hgs⟩
      obtain ⟨b, hb, rfl⟩ := mapg hi
      have hil := lt_of_get hb
      have hbM := List.mem_of_getElem? hb
      have hbn := hMU b hbM
      have hMD : M.getD i 0 = b := by rw [List.getD_eq_getElem?_getD, hb]; rfl
      obtain ⟨a, bs, ha, ea, hbl, hbs⟩ := hga hbn
      have s25 := s3.trans s5
      have ea5 := s25 _ _ (s02 _ _ ea)
      have hgl := hgs.len
      rw [List.length_take, cells_len, Nat.min_eq_left (by omega)] at hgl
      refine ⟨_, rfl, .inl ⟨rfl, _, .of eL⟩, ?_⟩
      refine ⟨_, rfl, _, rfl, r, _, _, .ref a, rfl, rfl, .of (s25 _ _ (s02 _ _ er)), atN ha, a, rfl, ⟨_, .of ea5⟩, fun D nD => ?_⟩
      refine lc_list (K := K) (a := a) (xs := bs.map V.ref) (fun j H' => Same H5 H' ∧ ∃ ts : List Addr, H' D = some (.lst (ts.map V.ref)) ∧ ts.length = j ∧ ∀ (k : Nat) (t : Addr), ts[k]? = some t → H' t = some (.tup [VN (M.idxOf (f (mv b k))), .int ((lab b).getD k 0)]))
        ⟨same_new nD, [], upd_same, rfl, fun k t e => by (cases e)⟩ (fun j H' _ ⟨z, _⟩ => .of (z _ _ ea5)) ?_ ?_
      · rintro j v H6 hj ⟨s6, ts, eD, htl, hts⟩
        obtain ⟨p, hp, rfl⟩ := refsg hj
        obtain ⟨hjl, ep⟩ := hbs hp
        have s26 := s25.trans s6
        have ep6 := s26 _ _ (s02 _ _ ep)
        have htn := hc b j hbn hjl
        have hmM := Bq.ordq_mem hM hbM hjl
        have eO6 := s6 _ _ (s5 _ _ eO)
        refine ⟨rfl, _, rfl, .inl ⟨rfl, _, .of eO6⟩, _, rfl, _, rfl, p, _, _, VN (mv b j), rfl, rfl, .of ep6, rfl, Fa, _, _, VN (f (mv b j)), rfl, rfl, .of (s26 _ _ eF), atN (hfg htn), ?_⟩
        dsimp only [tNil]
        refine index_nat eO6 hmM ?_
        refine ⟨_, rfl, p, _, _, .int ((lab b).getD j 0), rfl, rfl, .of ep6, rfl, by show 2 ≤ sizeLine; decide, fun t nt => ?_⟩
        generalize hX : upd H6 t _ = H7; obtain ⟨sH7, et⟩ := nw nt hX; clear hX
        have eD7 := sH7 _ _ eD
        refine ⟨_, eD7, by rw [List.length_map, htl]; exact Nat.lt_of_le_of_lt (show j ≤ 100 by omega) (by decide), fun q o e => ?_, ts ++ [t], by rw [upd_same, List.map_append]; rfl, by rw [List.length_append, htl]; rfl, fun k u e => ?_⟩
        · rw [upd_ne (ne_of_none e nD)]
          exact sH7 _ _ (s6 _ _ e)
        · have kt : ∀ c xs, H7 c = some (.tup xs) → (upd H7 D (.lst (ts.map V.ref ++ [V.ref t]))) c = some (.tup xs) := fun c xs e => by rw [upd_ne (fun z => by rw [z, eD7] at e; cases e)]; exact e
          rcases snocg e with ⟨_, z⟩ | ⟨z1, z2⟩
          · exact kt _ _ (sH7 _ _ (hts k u z))
          · rw [z2, z1, htl]
            exact kt _ _ et
      rintro H6 ⟨s6, ts, eD, htl, hts⟩
      rw [List.length_map, hbl] at htl
      have eL6 := s6 _ _ eL
      have nDL : D ≠ L := fun z => by rw [z, eL] at nD; cases nD
      refine ⟨L, _, _, rfl, rfl, eL6, by rw [List.length_map, hgl]; exact Nat.lt_of_le_of_lt (show i ≤ 100 by omega) (by decide), ?_⟩
      refine ⟨_, _, rfl, fun q o e => ?_, gs ++ [D], by rw [upd_same, List.map_append]; rfl, by rw [List.mem_append, List.mem_singleton]; exact fun z => z.elim nLg fun y => nDL y.symm, ?_⟩
      · rw [upd_ne (ne_of_none e nL)]
        exact s6 _ _ (s5 _ _ e)
      · have etk : (qcells lab mv l f M).take (i + 1) = (qcells lab mv l f M).take i ++ [(List.range l).map fun a => ((Bq.qmv mv f M i a : Int), (Bq.qlab lab M i).getD a 0)] := by
          rw [List.take_add_one, cells_get hil]
          rfl
        rw [etk]
        refine My.RP.snoc (bs := ts) ?_ (by rw [upd_ne nDL]; exact eD) (by rw [htl, List.length_map, List.length_range]) fun k t e => ?_
        · refine ⟨hgs.len, fun j a e => ?_⟩
          obtain ⟨bs', row, q1, q2, q3, q4⟩ := hgs.g j a e
          have nt : ∀ {c xs}, H5 c = some (.tup xs) → (upd H6 L (.lst (gs.map V.ref ++ [V.ref D]))) c = some (.tup xs) := fun {c xs} e => by rw [upd_ne (fun z => by rw [z, eL] at e; cases e)]; exact s6 _ _ e
          have naL : a ≠ L := fun z => nLg (z ▸ List.mem_of_getElem? e)
          exact ⟨bs', row, q1, by rw [upd_ne naL]; exact s6 _ _ q2, q3, fun k b hb => by obtain ⟨t, u, h5, h6⟩ := q4 k b hb; exact ⟨t, u, h5, nt h6⟩⟩
        · have hk : k < l := by have := lt_of_get e; omega
          refine ⟨_, _, rng_get hk, ?_⟩
          rw [upd_ne (fun z => by have h := hts k t e; rw [z, eL6] at h; cases h)]
          unfold Bq.qmv Bq.qlab
          rw [hMD]
          exact hts k t e
    · rintro σ H5 ⟨v5, v7, rfl, s5, gs, eL, nLg, hgs⟩
      rw [List.length_map, show M.length = (qcells lab mv l f M).length from cells_len.symm, List.take_length] at hgs
      subst hf
      exact ⟨_, rfl, q H5 L gs M (s02.trans (s3.trans s5)) ⟨eL, hgs⟩ hM⟩
theorem cal_take (T : Txt K mg cA0 PA0) : C8.Cal P w K mg base 1 "_law_take" spTake [] := by
  obtain ⟨f, fd, F, hm, hb⟩ := T.h_law_take
  refine ⟨f, fd, _, [], F.ok sc_law_take (fun vs H Q E h => ?_) (fun cdv A outer s H vs Q E hr h => ?_), hm, F.kp, hb, .nil⟩
  · obtain ⟨d, n, rfl, _⟩ := h
    rfl
  · obtain ⟨d, n, rfl, ⟨ds, hd⟩, hn, q⟩ := h
    refine ⟨_, (pss_cons
      (ps_if (pt_cmpR op_eq (pe_callB (call_lenK (K := K) rfl) (by rfl) T.z_len PySem.boot_len (pa_cons (pv 0) pa_nil)) pe_int (nomark _)) (pss_one
      (ps_ret pe_int)) pss_nil)
      (pss_one
      (ps_ret (pe_op op_mod (pe_callTy call_int1 (by rfl) T.z_int (by decide +kernel) (pa_cons (pe_bm0 PySem.F.plainAttrs_list PySem.F.slot_list_pop PySem.F.type_list_pop mt_pop (pv 0)) pa_nil)) (pv 1))))), ?_⟩
    walk_at "bx"
    refine ite2 (fun e => ?_) (fun e => ?_)
    · have q0 := q 0 ds (Int.le_refl 0) hn
      rw [upd_self hd] at q0
      exact q0
    · have hne : ds ≠ [] := fun z => e (by rw [z]; rfl)
      refine ⟨_, rfl, .inl ⟨rfl, _, SqL.of hd⟩, d, _, .int (ds.getLast hne), rfl, rfl, hd, ?_, ?_⟩
      · rw [List.length_map, List.getElem?_map, ← List.getLast?_eq_getElem?, List.getLast?_eq_getLast hne]
        rfl
      · walk_at "bx"
        rw [← List.map_dropLast]
        exact q _ _ (Int.emod_nonneg _ (by omega)) (Int.emod_lt_of_pos _ hn)
theorem cal_isint (T : Txt K mg cA0 PA0) : C8.Cal P w K mg base 1 "_law_is_integer" spIsInt [] := by
  obtain ⟨f, fd, F, hm, hb⟩ := T.h_law_is_integer
  refine ⟨f, fd, _, [], F.ok sc_law_is_integer (fun vs H Q E h => ?_) (fun cdv A outer s H vs Q E hr h => ?_), hm, F.kp, hb, .nil⟩
  · obtain ⟨i, rfl, _⟩ := h
    rfl
  · obtain ⟨i, rfl, q⟩ := h
    refine ⟨_, (pss_one
      (ps_ret (pe_and (pe_callB (call_isiK' (K := K) rfl) (by rfl) T.z_isinstance (by decide +kernel) (pa_cons (pv 0) (pa_cons (pe_bltn (v := .ty "int") (by rfl) T.z_int (by decide +kernel) rfl) pa_nil))) (pe_one (pe_not (pe_callB (call_isiK' (K := K) rfl) (by rfl) T.z_isinstance (by decide +kernel) (pa_cons (pv 0) (pa_cons (pe_bltn (v := .ty "bool") (by rfl) T.z_bool (by decide +kernel) rfl) pa_nil)))))))), ?_⟩
    refine ⟨_, rfl, _, _, _, _, true, rfl, .ty "int", .base (.int i), kit_ty (by decide +kernel), true, rfl, iteT ?_⟩
    exact ⟨_, rfl, _, _, _, _, false, rfl, .ty "bool", .base (.int i), kit_ty (by decide +kernel), false, rfl, q⟩
theorem cal_draws (T : Txt K mg cA0 PA0) : C8.Cal P w K mg base 1 "_law_draws" (spDraws K) [] := by
  obtain ⟨f, fd, F, hm, hb⟩ := T.h_law_draws
  refine ⟨f, fd, _, [], F.ok sc_law_draws (fun vs H Q E h => ?_) (fun cdv A outer s H vs Q E hr h => ?_), hm, F.kp, hb, .nil⟩
  · obtain ⟨a, ns, c, rfl, _⟩ := h
    rfl
  · obtain ⟨a, ns, n, rfl, hS, hn, q⟩ := h
    refine ⟨_, (pss_cons
      (ps_set (i := 2) sc_law_draws.nd rfl (Or.inl rfl) (pe_callTy (call_list_ofK (K := K) rfl) (by rfl) T.z_list (by decide +kernel) (pa_cons (pv 0) pa_nil)))
      (C8.pss_cut
      (ps_if (pt_cmpR op_eq (pe_callB (call_lenK (K := K) rfl) (by rfl) T.z_len PySem.boot_len (pa_cons (pv 2) pa_nil)) pe_int (nomark _)) (pss_one
      (ps_set (i := 2) sc_law_draws.nd rfl (Or.inl rfl) (pe_lst (pa_cons pe_int pa_nil)))) pss_nil)
      (pss_cons
      (ps_set (i := 3) sc_law_draws.nd rfl (Or.inl rfl) (pe_lst pa_nil))
      (pss_cons
      (ps_set (i := 4) sc_law_draws.nd rfl (Or.inl rfl) pe_int)
      (pss_cons
      (ps_for PassesOwn.never rfl (pi_range1 (by rfl) T.z_range (pa_cons (pv 1) pa_nil)) (pg_name (i := 5) sc_law_draws.nd rfl (.inl rfl)) (pss_cons
      (ps_set (i := 6) sc_law_draws.nd rfl (Or.inl rfl) (pe_op op_mod (pv 5) (pe_callB (call_lenK (K := K) rfl) (by rfl) T.z_len PySem.boot_len (pa_cons (pv 2) pa_nil))))
      (pss_cons
      (ps_set (i := 7) sc_law_draws.nd rfl (Or.inl rfl) (pe_ix (ix_listK (K := K) rfl) (pv 2) (pv 6) (fun _ _ => rfl)))
      (pss_cons
      (ps_set (i := 4) sc_law_draws.nd rfl (Or.inl rfl) (pe_op op_mod (pe_callTy call_int1 (by rfl) T.z_int (by decide +kernel) (pa_cons (pe_op op_add (pe_op op_add (pe_op op_add (pe_op op_mul (pv 4) pe_int) (pe_op op_mul (pe_op op_mod (pe_callTy call_int1 (by rfl) T.z_int (by decide +kernel) (pa_cons (pv 7) pa_nil)) pe_int) pe_int)) (pe_op op_mul (pv 5) pe_int)) pe_int) pa_nil)) pe_int))
      (pss_cons
      (ps_set (i := 8) sc_law_draws.nd rfl (Or.inl rfl) (pe_op op_mod (pe_callTy call_int1 (by rfl) T.z_int (by decide +kernel) (pa_cons (pe_op op_add (pe_op op_add (pe_op op_mul (pv 4) (pv 4)) (pe_op op_mul pe_int (pv 4))) (pv 5)) pa_nil)) pe_int))
      (pss_one
      (ps_if (pt_cmpR op_ge (pv 7) (pe_op op_pow pe_int pe_int) (nomark _)) (pss_cons
      (ps_expr (pe_bm PySem.F.plainAttrs_list PySem.F.slot_list_append PySem.F.type_list_append mt_append (pv 3) (pa_cons (pe_op op_mod (pe_callTy call_int1 (by rfl) T.z_int (by decide +kernel) (pa_cons (pv 7) pa_nil)) pe_int) pa_nil)))
      (pss_one
      (ps_asg (pe_op op_fdiv (pv 7) pe_int) (pg_sub (pv 2) (pv 6) set_list)))) (pss_one
      (ps_expr (pe_bm PySem.F.plainAttrs_list PySem.F.slot_list_append PySem.F.type_list_append mt_append (pv 3) (pa_cons (pe_op op_mod (pe_callTy call_int1 (by rfl) T.z_int (by decide +kernel) (pa_cons (pv 8) pa_nil)) pe_int) pa_nil)))))))))))
      (pss_cons
      (ps_expr (pe_bm0 PySem.F.plainAttrs_list PySem.F.slot_list_reverse PySem.F.type_list_reverse mt_reverse (pv 3)))
      (pss_one
      (ps_ret (pv 3))))))))), ?_⟩
    -- cells = list(script)
    refine ⟨_, rfl, a, _, rfl, .inl hS, fun l hl => ?_⟩
    -- if len(cells) == 0: cells = [7]
    refine ⟨fun σ H2 => ∃ (c : Addr) (cs : List Int), σ = [some (.ref a), some (.int n), some (.ref c), none, none, none, none, none, none] ∧ H c = none ∧ Same H H2 ∧ H2 c = some (.lst (cs.map V.int)) ∧ cs ≠ [], ?_, ?_⟩
    · have h0 : (upd H l (.lst (ns.map V.int))) l = some (.lst (ns.map V.int)) := upd_same
      walk_at "bx"
      refine ite2 (fun e => ?_) (fun e => ?_)
      · refine ⟨by show 1 ≤ sizeLine; decide, fun l2 h2 => ?_⟩
        have s1 : Same H (upd H l (.lst (ns.map V.int))) := same_new hl
        exact ⟨l2, [7], rfl, s1.free h2, s1.trans (same_new h2), upd_same, by decide⟩
      · exact ⟨l, ns, rfl, hl, same_new hl, upd_same, fun z => e (by rw [z]; rfl)⟩
    · rintro σ H2 ⟨c, cs, rfl, hc0, s2, hc, hcs⟩
      -- found = [], mixed = 12345
      refine ⟨Nat.zero_le _, fun o ho => ?_⟩
      have hco : c ≠ o := ne_of_none hc ho
      have ho0 : H o = none := s2.free ho
      -- for k in range(count)
      refine ⟨_, rfl, _, rfl, by omega, by omega, for_range (lo := 0) (n := ((n : Int)).toNat) (fun i σ H3 => ∃ (m : Int) (cs fs : List Int) (v5 v6 v7 v8 : Option V), σ = [some (.ref a), some (.int n), some (.ref c), some (.ref o), some (.int m), v5, v6, v7, v8] ∧ 0 ≤ m ∧ m < 2147483647 ∧ Same H H3 ∧ H3 c = some (.lst (cs.map V.int)) ∧ cs ≠ [] ∧ H3 o = some (.lst (fs.map V.int)) ∧ fs.length ≤ i)
        ⟨12345, cs, [], none, none, none, none, rfl, by decide, by decide, s2.trans (same_new ho), by rw [upd_ne hco]; exact hc, hcs, upd_same, Nat.le_refl _⟩ ?_ ?_⟩
      · rintro i σ H3 hi ⟨m, cs, fs, v5, v6, v7, v8, rfl, m0, m1, s3, hc, hcs, hf, hfl⟩
        have hl : 0 < cs.length := List.length_pos_iff.mpr hcs
        obtain ⟨z, hz⟩ : ∃ z, cs[i % cs.length]? = some z := ⟨_, List.getElem?_eq_getElem (Nat.mod_lt _ hl)⟩
        have ej : ((0 : Int) + (i : Int)) % (((cs.map V.int).length : Nat) : Int) = ((i % cs.length : Nat) : Int) := by
          rw [Int.zero_add, List.length_map]
          rfl
        -- j = k % len(cells)
        walk_at "bx"
        refine ⟨(show (0 : Int) < _ by rw [List.length_map]; omega), ?_⟩
        -- cell = cells[j]
        refine ⟨_, rfl, _, rfl, c, _, _, .int z, rfl, rfl, SqL.of hc, ?_, ?_⟩
        · rw [ej]
          exact atI_nat (by rw [List.getElem?_map, hz]; rfl)
        -- mixed, again
        walk_at "bx"
        have b1 : (0 : Int) ≤ z % 1000003 := Int.emod_nonneg _ (by decide)
        refine ⟨.inl ⟨?_, ?_⟩, ?_⟩
        · have := Int.emod_nonneg (m * 48271 + z % 1000003 * 69621 + (0 + (i : Int)) * 7919 + 11) (show (2147483647 : Int) ≠ 0 by decide)
          show -(2 ^ 64) < (m * 48271 + z % 1000003 * 69621 + (0 + (i : Int)) * 7919 + 11) % 2147483647
          omega
        · have := Int.emod_lt_of_pos (m * 48271 + z % 1000003 * 69621 + (0 + (i : Int)) * 7919 + 11) (show (0 : Int) < 2147483647 by decide)
          show (m * 48271 + z % 1000003 * 69621 + (0 + (i : Int)) * 7919 + 11) % 2147483647 < 2 ^ 64
          omega
        have c0 : 0 ≤ (m * 48271 + z % 1000003 * 69621 + (0 + (i : Int)) * 7919 + 11) % 2147483647 := Int.emod_nonneg _ (by decide)
        have c1 : (m * 48271 + z % 1000003 * 69621 + (0 + (i : Int)) * 7919 + 11) % 2147483647 < 2147483647 := Int.emod_lt_of_pos _ (by decide)
        walk_at "bx"
        refine ite2 (fun e => ?_) (fun e => ?_)
        · walk_at "bx"
          refine ⟨lenI (by omega), ?_⟩
          walk_at "bx"
          refine ⟨c, cs.map V.int, _, i % cs.length, rfl, rfl, by rw [upd_ne hco]; exact hc, by rw [ej]; exact ixN_at (by rw [List.length_map]; exact Nat.mod_lt _ hl), ?_⟩
          refine ⟨_, cs.set (i % cs.length) (z / 1000), fs ++ [z % 1000], _, _, _, _, rfl, c0, c1, fun b o' hb => ?_, by rw [upd_same, set_mapI], by simpa using hcs, by rw [upd_ne hco.symm, upd_same]; simp, by simp; omega⟩
          rw [upd_ne (fun z => by rw [z, hc0] at hb; cases hb), upd_ne (fun z => by rw [z, ho0] at hb; cases hb)]
          exact s3 _ _ hb
        · walk_at "bx"
          refine ⟨lenI (by omega), ?_⟩
          refine ⟨_, cs, fs ++ [_], _, _, _, _, rfl, c0, c1, fun b o' hb => ?_, by rw [upd_ne hco]; exact hc, hcs, by rw [upd_same, List.map_append]; rfl, by simp; omega⟩
          rw [upd_ne (fun z => by rw [z, ho0] at hb; cases hb)]
          exact s3 _ _ hb
      · rintro σ H3 ⟨m, cs, fs, v5, v6, v7, v8, rfl, m0, m1, s3, hc, hcs, hf, hfl⟩
        -- found.reverse()
        walk_at "bx"
        refine q _ o (fun b o' hb => ?_) ho0 ⟨fs.reverse, ?_⟩
        · rw [upd_ne (fun z => by rw [z, ho0] at hb; cases hb)]
          exact s3 _ _ hb
        · rw [upd_same, List.map_reverse]
theorem cal_ints (T : Txt K mg cA0 PA0) : C8.Cal P w K mg base 2 "_law_integers" spInts [] := by
  have C_law_is_integer : C8.Cal P w K mg base 1 "_law_is_integer" spIsInt [] := cal_isint T
  obtain ⟨f, fd, F, hm, hb⟩ := T.h_law_integers
  refine ⟨f, fd, _, [], F.ok sc_law_integers (fun vs H Q E h => ?_) (fun cdv A outer s H vs Q E hr h => ?_), hm, F.kp, hb, .nil⟩
  · obtain ⟨a, xs, lo, hi, rfl, _⟩ := h
    rfl
  · obtain ⟨a, xs, lo, hi, rfl, ht, hx, q⟩ := h
    refine ⟨_, (pss_cons
      (ps_if (pt_not (pt_val (pe_callB (call_isiK' (K := K) rfl) (by rfl) T.z_isinstance (by decide +kernel) (pa_cons (pv 0) (pa_cons (pe_bltn (v := .ty "tuple") (by rfl) T.z_tuple (by decide +kernel) rfl) pa_nil))))) (pss_one
      (ps_ret pe_bl)) pss_nil)
      (pss_cons
      (ps_for PassesOwn.never rfl (pi_tup (pv 0)) (pg_name (i := 3) sc_law_integers.nd rfl (.inl rfl)) (pss_one
      (ps_if (PW.pt (pw_or (pt_not (pt_val (C8.pe_c C_law_is_integer hr (by decide) (by rfl) (pa_cons (pv 3) pa_nil)))) (pw_or (pt_cmpR op_lt (pv 3) (pv 1) (nomark _)) (pw_or1 (pt_cmpR op_ge (pv 3) (pv 2) (nomark _)))))) (pss_one
      (ps_ret pe_bl)) pss_nil)))
      (pss_one
      (ps_ret pe_bl)))), ?_⟩
    refine ⟨_, rfl, _, _, _, _, true, rfl, .ty "tuple", .base (.tup ht), kit_ty (by decide +kernel), true, rfl, ?_⟩
    refine ⟨_, rfl, a, rfl, ⟨_, .of ht⟩, for_tup (K := K) (a := a) (xs := xs.map V.int) (fun i σ H' => ∃ v : Option V, σ = [some (.ref a), some (.int lo), some (.int hi), v] ∧ H' = H) ⟨none, rfl, rfl⟩ (fun i σ H' _ ⟨_, _, e⟩ => by rw [e]; exact .of ht) ?_ ?_⟩
    · rintro i y σ H' hi ⟨v, rfl, rfl⟩
      obtain ⟨z, hz, rfl⟩ : ∃ z, xs[i]? = some z ∧ y = V.int z := by
        rw [List.getElem?_map] at hi
        cases e : xs[i]? with
        | none => rw [e] at hi; cases hi
        | some z => rw [e] at hi; exact ⟨z, rfl, (Option.some.inj hi).symm⟩
      obtain ⟨c1, c2⟩ := hx z (List.mem_of_getElem? hz)
      refine ⟨_, rfl, z, rfl, true, rfl, ?_⟩
      refine ⟨_, rfl, _, rfl, _, _, rfl, rfl, _, rfl, ite_lt (fun c => absurd c1 (by omega)) (fun _ => ?_)⟩
      refine ⟨_, rfl, _, rfl, _, _, rfl, rfl, _, rfl, ?_⟩
      refine ite2 (fun c => absurd (of_decide_eq_true c) (by omega)) (fun _ => ?_)
      exact ⟨_, rfl, rfl⟩
    · rintro σ H' ⟨v, rfl, rfl⟩
      exact q
theorem RP.keep {mk : List V → HO} {H H' : Hp} {as : List Addr} {c : List (List (Int × Int))} (h : RP mk H as c) (k1 : ∀ a ∈ as, ∀ o, H a = some o → H' a = some o) (k2 : ∀ b xs, H b = some (.tup xs) → H' b = some (.tup xs)) : RP mk H' as c := ⟨h.len, fun i a e => by
  obtain ⟨bs, row, h1, h2, h3, h4⟩ := h.g i a e
  exact ⟨bs, row, h1, k1 a (List.mem_of_getElem? e) _ h2, h3, fun j b hb => by obtain ⟨t, l, h5, h6⟩ := h4 j b hb; exact ⟨t, l, h5, k2 _ _ h6⟩⟩⟩
theorem kp_tup {d : Addr} {H H' : Hp} (hd : Drw H d) (k : Kp d H H') : ∀ (b : Addr) (xs : List V), H b = some (.tup xs) → H' b = some (.tup xs) := fun b xs hb => k _ _ (hd.ne_tup hb) hb
def spMach : Sp := fun vs H Q _ => ∃ (d : Addr) (I O L : Int) (m : Nat), vs = [.ref d, .int I, .int O, .int L, .int m] ∧ Drw H d ∧ 1 ≤ I ∧ I ≤ 100 ∧ 1 ≤ O ∧ -3 ≤ L ∧ L ≤ 2 ∧ 1 ≤ m ∧ m ≤ 100 ∧
  ∀ (H' : Hp) (t oa r : Addr) (as : List Addr) (op : List Int) (c : List (List (Int × Int))), Kp d H H' → Drw H' d → H' t = some (.tup [.ref oa, .ref r]) → H' oa = some (.lst (op.map V.int)) → LPr H' r as c → d ≠ oa → d ≠ r → (∀ a ∈ as, a ≠ d) → Vm I O L op c → c.length ≤ m → Q (.ref t) H'
theorem cal_mach (T : Txt K mg cA0 PA0) : C8.Cal P w K mg base 2 "_law_machine" spMach [] := by
  have C_law_take : C8.Cal P w K mg base 1 "_law_take" spTake [] := cal_take T
  obtain ⟨f, fd, F, hm, hb⟩ := T.h_law_machine
  refine ⟨f, fd, _, [], F.ok sc_law_machine (fun vs H Q E h => ?_) (fun cdv A outer s H vs Q E hr h => ?_), hm, F.kp, hb, .nil⟩
  · obtain ⟨d, I, O, L, m, rfl, _⟩ := h
    rfl
  · obtain ⟨d, I, O, L, m, rfl, hd, i1, i2, o1, l0, l1, m1, m2, q⟩ := h
    refine ⟨_, (pss_cons
      (ps_set (i := 5) sc_law_machine.nd rfl (Or.inl rfl) (pe_op op_add pe_int (C8.pe_c C_law_take hr (by decide) (by rfl) (pa_cons (pv 0) (pa_cons (pv 4) pa_nil)))))
      (pss_cons
      (ps_setLc (i := 6) (own := [("k", 12)]) (g := gName 12) (tt := tYes) rfl sc_law_machine.nd rfl rfl (sw_true rfl rfl rfl (by decide +kernel)) (pi_range1 (by rfl) T.z_range (pa_cons (pe_callB (call_max2 rfl) (by rfl) T.z_max (by decide +kernel) (pa_cons pe_int (pa_cons (pe_un un_neg (pv 3)) pa_nil))) pa_nil)) (blkOk_by (N := N_law_machine) (sc := defScope s_law_machine) (by decide +kernel)) (fun _ _ _ _ _ => (pg_name (i := 12) sc_law_machine.nd rfl (Or.inl rfl))) (fun _ _ _ _ _ => pts_nil) (fun _ _ _ _ _ => (C8.pe_c C_law_take hr (by decide) (by rfl) (pa_cons (pv 0) (pa_cons (pv 2) pa_nil)))))
      (pss_cons
      (ps_set (i := 7) sc_law_machine.nd rfl (Or.inl rfl) (pe_lst pa_nil))
      (pss_cons
      (ps_for PassesOwn.never rfl (pi_range1 (by rfl) T.z_range (pa_cons (pv 5) pa_nil)) (pg_name (i := 8) sc_law_machine.nd rfl (.inl rfl)) (pss_cons
      (ps_set (i := 9) sc_law_machine.nd rfl (Or.inl rfl) (pe_lst pa_nil))
      (pss_cons
      (ps_for PassesOwn.never rfl (pi_range1 (by rfl) T.z_range (pa_cons (pv 1) pa_nil)) (pg_name (i := 10) sc_law_machine.nd rfl (.inl rfl)) (pss_cons
      (ps_set (i := 11) sc_law_machine.nd rfl (Or.inl rfl) (C8.pe_c C_law_take hr (by decide) (by rfl) (pa_cons (pv 0) (pa_cons (pv 5) pa_nil))))
      (pss_one
      (ps_expr (pe_bm PySem.F.plainAttrs_list PySem.F.slot_list_append PySem.F.type_list_append mt_append (pv 9) (pa_cons (pe_tup (pa_cons (pv 11) (pa_cons (C8.pe_c C_law_take hr (by decide) (by rfl) (pa_cons (pv 0) (pa_cons (pv 2) pa_nil))) pa_nil))) pa_nil))))))
      (pss_one
      (ps_expr (pe_bm PySem.F.plainAttrs_list PySem.F.slot_list_append PySem.F.type_list_append mt_append (pv 7) (pa_cons (pv 9) pa_nil)))))))
      (pss_one
      (ps_ret (pe_tup (pa_cons (pv 6) (pa_cons (pv 7) pa_nil))))))))), ?_⟩
    refine ⟨_, rfl, _, rfl, d, m, rfl, hd, by omega, fun cn ds c0 c1 => ?_⟩
    have d1 : Drw (upd H d (.lst (ds.map V.int))) d := Drw.own
    have k1 : Kp d H (upd H d (.lst (ds.map V.int))) := Kp.own
    generalize upd H d (.lst (ds.map V.int)) = H1 at d1 k1 ⊢
    refine ⟨_, _, rfl, rfl, ?_⟩
    have emx : (if -L > 0 then -L else 0) = (((max 0 (-L)).toNat : Nat) : Int) := by split <;> omega
    refine ⟨_, rfl, _, rfl, _, _, rfl, _, rfl, by rw [emx]; omega, by rw [emx]; omega, fun OA hOA => ?_⟩
    rw [emx, Int.toNat_natCast]
    have nOd : OA ≠ d := fun z => by obtain ⟨o, y⟩ := d1; rw [← z, hOA] at y; cases y
    refine lc_range (lo := 0) (n := (max 0 (-L)).toNat) (fun i H' => ∃ xs : List Int, Kp d H1 H' ∧ Drw H' d ∧ H' OA = some (.lst (xs.map V.int)) ∧ xs.length = i ∧ ∀ z ∈ xs, 0 ≤ z ∧ z < O)
      ⟨[], Kp.new hOA, d1.new hOA, upd_same, rfl, by simp⟩ ?_ ?_
    · rintro i H2 hi ⟨xs, k2, d2, e2, xl, hx⟩
      refine ⟨rfl, _, rfl, _, rfl, d, O, rfl, d2, by omega, fun u us u0 u1 => ?_⟩
      have e3 : (upd H2 d (.lst (us.map V.int))) OA = some (.lst (xs.map V.int)) := by rw [upd_ne nOd]; exact e2
      have k3 : Kp d H1 (upd H2 d (.lst (us.map V.int))) := k2.trans Kp.own
      have d3 : Drw (upd H2 d (.lst (us.map V.int))) d := Drw.own
      generalize upd H2 d (.lst (us.map V.int)) = H3 at e3 k3 d3 ⊢
      refine ⟨_, e3, lenI (by omega), xs ++ [u], fun b o nb hb => ?_, ?_, by rw [upd_same, List.map_append]; rfl, by rw [List.length_append, xl]; rfl, fun z hz => ?_⟩
      · rw [upd_ne (ne_of_none hb hOA)]
        exact k3 _ _ nb hb
      · obtain ⟨o, y⟩ := d3
        exact ⟨o, by rw [upd_ne nOd.symm]; exact y⟩
      · rcases List.mem_append.mp hz with y | y
        · exact hx z y
        · rw [List.mem_singleton.mp y]; exact ⟨u0, u1⟩
    rintro H2 ⟨op, k2, d2, e2, opl, hop⟩
    have k02 := k1.trans k2
    refine ⟨Nat.zero_le _, fun R hR => ?_⟩
    have nRd : R ≠ d := fun z => by obtain ⟨o, y⟩ := d2; rw [← z, hR] at y; cases y
    have nRO : R ≠ OA := fun z => by rw [z, e2] at hR; cases hR
    have s3 := same_new (o := .lst []) hR
    have e3 := upd_same (H := H2) (a := R) (o := .lst [])
    generalize upd H2 R (.lst []) = H3 at s3 e3 ⊢
    have d3 := d2.same s3
    have eo3 := s3 _ _ e2
    have k03 : Kp d H H3 := k02.trans (Same.kp s3)
    have hcn : (1 + cn).toNat ≤ m := by omega
    refine ⟨_, rfl, _, rfl, by omega, by omega, for_range (lo := 0) (n := (1 + cn).toNat) (fun i σ H' => ∃ (v8 v9 v10 v11 v12 : Option V) (as : List Addr) (c : List (List (Int × Int))), σ = [some (.ref d), some (.int I), some (.int O), some (.int L), some (.int m), some (.int (1 + cn)), some (.ref OA), some (.ref R), v8, v9, v10, v11, v12] ∧ Kp d H H' ∧ Drw H' d ∧ H' OA = some (.lst (op.map V.int)) ∧ H' R = some (.lst (as.map V.ref)) ∧ RP .lst H' as c ∧ c.length = i ∧
      (∀ r ∈ c, (r.length : Int) = I ∧ ∀ p ∈ r, 0 ≤ p.1 ∧ p.1 < 1 + cn ∧ 0 ≤ p.2 ∧ p.2 < O) ∧ ∀ a ∈ as, a ≠ d ∧ a ≠ R)
      ⟨_, _, _, _, _, [], [], rfl, k03, d3, eo3, e3, My.RP.nil, rfl, by simp, by simp⟩ ?_ ?_⟩
    · clear k03 d3 eo3 s3 e3 k1 k2 d1 d2
      rintro i σ H4 hi ⟨v8, v9, v10, v11, v12, as, c, rfl, k4, d4, eo4, eR4, R4, hcl, hcw, has⟩
      have hal := R4.len
      refine ⟨Nat.zero_le _, fun ra hra => ?_⟩
      have nad : ra ≠ d := fun z => by obtain ⟨o, y⟩ := d4; rw [← z, hra] at y; cases y
      have naR : ra ≠ R := fun z => by rw [z, eR4] at hra; cases hra
      have naO : ra ≠ OA := fun z => by rw [z, eo4] at hra; cases hra
      have naa : ∀ a ∈ as, a ≠ ra := fun a ha z => by
        obtain ⟨j, hj⟩ := List.mem_iff_getElem?.mp ha
        obtain ⟨bs, row, _, h2, _⟩ := R4.g j a hj
        rw [z, hra] at h2
        cases h2
      have hraH : H ra = none := by
        cases e : H ra with
        | none => rfl
        | some o => rw [k4 _ _ nad e] at hra; cases hra
      have s5 := same_new (o := .lst []) hra
      have e5 := upd_same (H := H4) (a := ra) (o := .lst [])
      generalize upd H4 ra (.lst []) = H5 at s5 e5 ⊢
      refine ⟨_, rfl, _, rfl, by omega, by omega, for_range (lo := 0) (n := I.toNat) (fun j σ H' => ∃ (v10 v11 v12 : Option V) (bs : List Addr) (row : List (Int × Int)), σ = [some (.ref d), some (.int I), some (.int O), some (.int L), some (.int m), some (.int (1 + cn)), some (.ref OA), some (.ref R), some (.int (0 + (i : Int))), some (.ref ra), v10, v11, v12] ∧ Kp d H H' ∧ Drw H' d ∧ H' OA = some (.lst (op.map V.int)) ∧ H' R = some (.lst (as.map V.ref)) ∧ RP .lst H' as c ∧
        H' ra = some (.lst (bs.map V.ref)) ∧ bs.length = j ∧ row.length = j ∧ (∀ p ∈ row, 0 ≤ p.1 ∧ p.1 < 1 + cn ∧ 0 ≤ p.2 ∧ p.2 < O) ∧ ∀ (k : Nat) (b : Addr), bs[k]? = some b → ∃ t l, row[k]? = some (t, l) ∧ H' b = some (.tup [.int t, .int l]))
        ⟨_, _, _, [], [], rfl, k4.trans (Same.kp s5), d4.same s5, s5 _ _ eo4, s5 _ _ eR4, R4.same s5, e5, rfl, rfl, by simp, fun k b e => by (cases e)⟩ ?_ ?_⟩
      · clear s5 e5 d4 eo4 eR4 R4
        rintro j σ H6 hj ⟨v10, v11, v12, bs, row, rfl, k6, d6, eo6, eR6, R6, er6, hbl, hrl, hrw, hbs⟩
        refine ⟨_, rfl, _, rfl, d, 1 + cn, rfl, d6, by omega, fun t ts t0 t1 => ?_⟩
        have tk7 := kp_tup d6 (Kp.own (H := H6) (d := d) (o := .lst (ts.map V.int)))
        have k7 : Kp d H6 (upd H6 d (.lst (ts.map V.int))) := Kp.own
        have d7 : Drw (upd H6 d (.lst (ts.map V.int))) d := Drw.own
        generalize upd H6 d (.lst (ts.map V.int)) = H7 at tk7 k7 d7 ⊢
        refine ⟨_, rfl, .inl ⟨rfl, _, .of (k7 _ _ nad er6)⟩, ?_⟩
        refine ⟨_, rfl, _, rfl, _, rfl, d, O, rfl, d7, by omega, fun l ls l0' l1' => ?_⟩
        have tk8 := kp_tup d7 (Kp.own (H := H7) (d := d) (o := .lst (ls.map V.int)))
        have k8 : Kp d H7 (upd H7 d (.lst (ls.map V.int))) := Kp.own
        have d8 : Drw (upd H7 d (.lst (ls.map V.int))) d := Drw.own
        generalize upd H7 d (.lst (ls.map V.int)) = H8 at tk8 k8 d8 ⊢
        have k68 := k7.trans k8
        refine ⟨by show 2 ≤ sizeLine; decide, fun p hp => ?_⟩
        have s9 := same_new (o := .tup [.int t, .int l]) hp
        have e9 := upd_same (H := H8) (a := p) (o := .tup [.int t, .int l])
        generalize upd H8 p (.tup [.int t, .int l]) = H9 at s9 e9 ⊢
        have er9 := s9 _ _ (k68 _ _ nad er6)
        refine ⟨ra, _, _, rfl, rfl, er9, by rw [List.length_map, hbl]; exact Nat.lt_of_le_of_lt (show j ≤ 1000 by omega) (by decide), ?_⟩
        have kk : Kp ra H9 (upd H9 ra (.lst (bs.map V.ref ++ [.ref p]))) := Kp.own
        have tkk := tup_upd (o := .lst (bs.map V.ref ++ [.ref p])) er9
        have ekk := upd_same (H := H9) (a := ra) (o := .lst (bs.map V.ref ++ [.ref p]))
        generalize upd H9 ra (.lst (bs.map V.ref ++ [.ref p])) = HA at kk tkk ekk ⊢
        have T6A : ∀ b xs, H6 b = some (.tup xs) → HA b = some (.tup xs) := fun b xs hb => tkk _ _ (s9 _ _ (tk8 _ _ (tk7 _ _ hb)))
        have K6A : ∀ a, a ≠ d → a ≠ ra → ∀ o, H6 a = some o → HA a = some o := fun a n1 n2 o ho => kk _ _ n2 (s9 _ _ (k68 _ _ n1 ho))
        refine ⟨_, _, _, bs ++ [p], row ++ [(t, l)], rfl, fun b o nb hb => ?_, ?_, K6A _ nOd naO.symm _ eo6, K6A _ nRd naR.symm _ eR6, My.RP.keep R6 (fun a ha => K6A a (has a ha).1 (naa a ha)) T6A, by rw [ekk, List.map_append]; rfl, by rw [List.length_append, hbl]; rfl, by rw [List.length_append, hrl]; rfl, fun z hz => ?_, fun k b hk => ?_⟩
        · exact kk _ _ (ne_of_none hb hraH) (s9 _ _ (k68 _ _ nb (k6 _ _ nb hb)))
        · obtain ⟨o, y⟩ := d8
          exact ⟨o, kk _ _ nad.symm (s9 _ _ y)⟩
        · rcases List.mem_append.mp hz with y | y
          · exact hrw z y
          · rw [List.mem_singleton.mp y]; exact ⟨t0, t1, l0', l1'⟩
        · rcases snoc_get hk with ⟨h0, h1⟩ | ⟨h1, h2⟩
          · obtain ⟨t', l', g1, g2⟩ := hbs k b h1
            exact ⟨t', l', by rw [List.getElem?_append_left (by omega)]; exact g1, T6A _ _ g2⟩
          · subst h2
            exact ⟨t, l, by rw [List.getElem?_append_right (by omega), show k - row.length = 0 by omega]; rfl, tkk _ _ e9⟩
      · rintro σ H6 ⟨v10, v11, v12, bs, row, rfl, k6, d6, eo6, eR6, R6, er6, hbl, hrl, hrw, hbs⟩
        refine ⟨_, rfl, .inl ⟨rfl, _, .of eR6⟩, _, rfl, R, _, _, rfl, rfl, eR6, by rw [List.length_map]; exact Nat.lt_of_le_of_lt (show as.length ≤ 1000 by omega) (by decide), ?_⟩
        have hRH : H R = none := by
          cases e : H R with
          | none => rfl
          | some o => rw [k02 _ _ nRd e] at hR; cases hR
        have kk : Kp R H6 (upd H6 R (.lst (as.map V.ref ++ [.ref ra]))) := Kp.own
        have tkk := tup_upd (o := .lst (as.map V.ref ++ [.ref ra])) eR6
        have ekk := upd_same (H := H6) (a := R) (o := .lst (as.map V.ref ++ [.ref ra]))
        generalize upd H6 R (.lst (as.map V.ref ++ [.ref ra])) = H7 at kk tkk ekk ⊢
        refine ⟨_, _, _, _, _, as ++ [ra], c ++ [row], rfl, fun b o nb hb => kk _ _ (ne_of_none hb hRH) (k6 _ _ nb hb), ?_, kk _ _ nRO.symm eo6, by rw [ekk, List.map_append]; rfl, ?_, by rw [List.length_append, hcl]; rfl, fun r hr => ?_, fun a ha => ?_⟩
        · obtain ⟨o, y⟩ := d6
          exact ⟨o, kk _ _ nRd.symm y⟩
        · exact My.RP.snoc (My.RP.keep R6 (fun a ha o h => kk _ _ (has a ha).2 h) tkk) (kk _ _ naR er6) (by omega) fun k b hb => by obtain ⟨t, l, g1, g2⟩ := hbs k b hb; exact ⟨t, l, g1, tkk _ _ g2⟩
        · rcases List.mem_append.mp hr with y | y
          · exact hcw r y
          · rw [List.mem_singleton.mp y]; exact ⟨by omega, hrw⟩
        · rcases List.mem_append.mp ha with y | y
          · exact has a y
          · rw [List.mem_singleton.mp y]; exact ⟨nad, naR⟩
    · rintro σ H4 ⟨v8, v9, v10, v11, v12, as, c, rfl, k4, d4, eo4, eR4, R4, hcl, hcw, has⟩
      refine ⟨_, rfl, _, rfl, by show 2 ≤ sizeLine; decide, fun t ht => ?_⟩
      have s5 := same_new (o := .tup [.ref OA, .ref R]) ht
      refine q _ t OA R as op c (k4.trans (Same.kp s5)) (d4.same s5) upd_same (s5 _ _ eo4) ⟨s5 _ _ eR4, R4.same s5⟩ nOd.symm nRd.symm (fun a ha => (has a ha).1) ⟨i1, o1, l0, l1, by omega, fun z => by rw [z] at hcl; simp at hcl; omega, fun r hr => (hcw r hr).1, fun r hr p hp => ?_, hop, fun r hr p hp => ?_⟩ (by omega)
      · obtain ⟨g1, g2, _⟩ := (hcw r hr).2 p hp
        exact ⟨g1, by omega⟩
      · obtain ⟨_, _, g⟩ := (hcw r hr).2 p hp
        exact g
def spIsM (C : Addr) : Sp := fun vs H Q _ => ∃ (x : Addr) (I O L : Int) (op : List Int) (c : List (List (Int × Int))), vs = [.ref x, .int I, .int O, .int L] ∧ MchAt C H x I O L op c ∧ Vm I O L op c ∧ op.length ≤ 1000 ∧ c.length ≤ 1000 ∧ ∀ H', Same H H' → Q (.bl true) H'
theorem cal_ism {C : Addr} (T : Txt K mg cA0 PA0) (PC : MchC K C) : C8.Cal P w K mg base 3 "_law_is_machine" (spIsM C) [] := by
  have C_law_is_integer : C8.Cal P w K mg base 1 "_law_is_integer" spIsInt [] := cal_isint T
  have C_law_integers : C8.Cal P w K mg base 2 "_law_integers" spInts [] := cal_ints T
  obtain ⟨f, fd, F, hm, hb⟩ := T.h_law_is_machine
  refine ⟨f, fd, _, [], F.ok sc_law_is_machine (fun vs H Q E h => ?_) (fun cdv A outer s H vs Q E hr h => ?_), hm, F.kp, hb, .nil⟩
  · obtain ⟨x, I, O, L, op, c, rfl, _⟩ := h
    rfl
  · obtain ⟨x, I, O, L, op, c, rfl, hA, hV, b1, b2, q⟩ := h
    refine ⟨_, (pss_cons
      (ps_for PassesOwn.never rfl (pi_tup (pe_tup (pa_cons (pe_fld (pv 0) rfl) (pa_cons (pe_fld (pv 0) rfl) (pa_cons (pe_fld (pv 0) rfl) pa_nil))))) (pg_name (i := 4) sc_law_is_machine.nd rfl (.inl rfl)) (pss_one
      (ps_if (pt_not (pt_val (C8.pe_c C_law_is_integer hr (by decide) (by rfl) (pa_cons (pv 4) pa_nil)))) (pss_one
      (ps_ret pe_bl)) pss_nil)))
      (pss_cons
      (ps_if (PW.pt (pw_or (pt_cmpR op_ne (pe_fld (pv 0) rfl) (pv 1) (nomark _)) (pw_or (pt_cmpR op_ne (pe_fld (pv 0) rfl) (pv 2) (nomark _)) (pw_or1 (pt_cmpR op_ne (pe_fld (pv 0) rfl) (pv 3) (nomark _)))))) (pss_one
      (ps_ret pe_bl)) pss_nil)
      (pss_cons
      (ps_if (PW.pt (pw_or (pt_not (pt_val (C8.pe_c C_law_integers hr (by decide) (by rfl) (pa_cons (pe_fld (pv 0) rfl) (pa_cons pe_int (pa_cons (pv 2) pa_nil)))))) (pw_or1 (pt_cmpR op_ne (pe_callB (call_lenK (K := K) rfl) (by rfl) T.z_len PySem.boot_len (pa_cons (pe_fld (pv 0) rfl) pa_nil)) (pe_callB (call_max2 rfl) (by rfl) T.z_max (by decide +kernel) (pa_cons pe_int (pa_cons (pe_un un_neg (pv 3)) pa_nil))) (nomark _))))) (pss_one
      (ps_ret pe_bl)) pss_nil)
      (pss_cons
      (ps_if (PW.pt (pw_or (pt_not (pt_val (pe_callB (call_isiK' (K := K) rfl) (by rfl) T.z_isinstance (by decide +kernel) (pa_cons (pe_fld (pv 0) rfl) (pa_cons (pe_bltn (v := .ty "tuple") (by rfl) T.z_tuple (by decide +kernel) rfl) pa_nil))))) (pw_or1 (pt_cmpR op_eq (pe_callB (call_lenK (K := K) rfl) (by rfl) T.z_len PySem.boot_len (pa_cons (pe_fld (pv 0) rfl) pa_nil)) pe_int (nomark _))))) (pss_one
      (ps_ret pe_bl)) pss_nil)
      (pss_cons
      (ps_for PassesOwn.never rfl (pi_tup (pe_fld (pv 0) rfl)) (pg_name (i := 5) sc_law_is_machine.nd rfl (.inl rfl)) (pss_cons
      (ps_if (PW.pt (pw_or (pt_not (pt_val (pe_callB (call_isiK' (K := K) rfl) (by rfl) T.z_isinstance (by decide +kernel) (pa_cons (pv 5) (pa_cons (pe_bltn (v := .ty "tuple") (by rfl) T.z_tuple (by decide +kernel) rfl) pa_nil))))) (pw_or1 (pt_cmpR op_ne (pe_callB (call_lenK (K := K) rfl) (by rfl) T.z_len PySem.boot_len (pa_cons (pv 5) pa_nil)) (pv 1) (nomark _))))) (pss_one
      (ps_ret pe_bl)) pss_nil)
      (pss_one
      (ps_for PassesOwn.never rfl (pi_tup (pv 5)) (pg_name (i := 6) sc_law_is_machine.nd rfl (.inl rfl)) (pss_cons
      (ps_if (PW.pt (pw_or (pt_not (pt_val (C8.pe_c C_law_integers hr (by decide) (by rfl) (pa_cons (pv 6) (pa_cons pe_int (pa_cons (pe_callB (call_max2 rfl) (by rfl) T.z_max (by decide +kernel) (pa_cons (pv 2) (pa_cons (pe_callB (call_lenK (K := K) rfl) (by rfl) T.z_len PySem.boot_len (pa_cons (pe_fld (pv 0) rfl) pa_nil)) pa_nil))) pa_nil)))))) (pw_or1 (pt_cmpR op_ne (pe_callB (call_lenK (K := K) rfl) (by rfl) T.z_len PySem.boot_len (pa_cons (pv 6) pa_nil)) pe_int (nomark _))))) (pss_one
      (ps_ret pe_bl)) pss_nil)
      (pss_one
      (ps_if (PW.pt (pw_or (pt_cmpR op_ge (pe_ix (ix_tupK (K := K) rfl) (pv 6) pe_int (fun _ _ => rfl)) (pe_callB (call_lenK (K := K) rfl) (by rfl) T.z_len PySem.boot_len (pa_cons (pe_fld (pv 0) rfl) pa_nil)) (nomark _)) (pw_or1 (pt_cmpR op_ge (pe_ix (ix_tupK (K := K) rfl) (pv 6) pe_int (fun _ _ => rfl)) (pv 2) (nomark _))))) (pss_one
      (ps_ret pe_bl)) pss_nil)))))))
      (pss_one
      (ps_ret pe_bl))))))), ?_⟩
    obtain ⟨dx, ot, rt, as, e1, e2, e3, e4⟩ := id hA
    have hl2 : (as.map V.ref).length = c.length := by rw [List.length_map, e4.len]
    have hcn : 0 < c.length := List.length_pos_iff.mpr hV.ne
    refine ⟨_, rfl, x, C, dx, _, _, rfl, e1, PC.cl, PC.nI, mf_I _ _ _ _ _, _, rfl, x, C, dx, _, _, rfl, e1, PC.cl, PC.nO, mf_O _ _ _ _ _, _, rfl, x, C, dx, _, _, rfl, e1, PC.cl, PC.nL, mf_L _ _ _ _ _, by show 3 ≤ sizeLine; decide, fun p hp => ?_⟩
    have s1 := same_new (o := .tup [.int I, .int O, .int L]) hp
    have ep := upd_same (H := H) (a := p) (o := .tup [.int I, .int O, .int L])
    generalize upd H p (.tup [.int I, .int O, .int L]) = H1 at s1 ep ⊢
    refine ⟨p, rfl, ⟨_, .of ep⟩, for_tup (K := K) (a := p) (xs := [.int I, .int O, .int L]) (fun i σ H2 => ∃ v : Option V, σ = [some (.ref x), some (.int I), some (.int O), some (.int L), v, none, none] ∧ H2 = H1) ⟨_, rfl, rfl⟩ (fun i σ H2 _ ⟨_, _, e⟩ => by rw [e]; exact .of ep) ?_ ?_⟩
    · rintro i y σ H2 hi ⟨v, rfl, rfl⟩
      obtain ⟨z, rfl⟩ : ∃ z : Int, y = .int z := by
        rcases i with _ | _ | _ | i
        · exact ⟨I, (Option.some.inj hi).symm⟩
        · exact ⟨O, (Option.some.inj hi).symm⟩
        · exact ⟨L, (Option.some.inj hi).symm⟩
        · cases hi
      exact ⟨_, rfl, z, rfl, true, rfl, ⟨_, rfl, rfl⟩⟩
    · rintro σ H2 ⟨v, rfl, rfl⟩
      have f1 := s1 _ _ e1
      have f2 := s1 _ _ e2
      have f3 := s1 _ _ e3
      have f4 := e4.same s1
      refine ⟨_, rfl, x, C, dx, _, _, rfl, f1, PC.cl, PC.nI, mf_I _ _ _ _ _, _, rfl, rfl, _, rfl, ite_ne (fun k => absurd rfl k) (fun _ => ?_)⟩
      refine ⟨_, rfl, x, C, dx, _, _, rfl, f1, PC.cl, PC.nO, mf_O _ _ _ _ _, _, rfl, rfl, _, rfl, ite_ne (fun k => absurd rfl k) (fun _ => ?_)⟩
      refine ⟨_, rfl, x, C, dx, _, _, rfl, f1, PC.cl, PC.nL, mf_L _ _ _ _ _, _, rfl, rfl, _, rfl, ite_ne (fun k => absurd rfl k) (fun _ => ?_)⟩
      refine ⟨_, rfl, x, C, dx, _, _, rfl, f1, PC.cl, PC.no, mf_o _ _ _ _ _, _, rfl, ot, op, 0, O, rfl, f2, hV.op_in, true, rfl, ?_⟩
      have emx : (if -L > 0 then -L else 0) = max 0 (-L) := by split <;> omega
      refine ⟨_, rfl, x, C, dx, _, _, rfl, f1, PC.cl, PC.no, mf_o _ _ _ _ _, ot, _, rfl, .inr (.of f2), _, rfl, _, rfl, _, _, rfl, rfl, _, rfl, ite_ne (fun k => absurd (by rw [List.length_map, emx]; exact hV.op_len) k) (fun _ => ?_)⟩
      refine ⟨_, rfl, x, C, dx, _, _, rfl, f1, PC.cl, PC.nr, mf_r _ _ _ _ _, _, _, _, _, true, rfl, .ty "tuple", .base (.tup f3), kit_ty (by decide +kernel), true, rfl, ?_⟩
      refine ⟨_, rfl, x, C, dx, _, _, rfl, f1, PC.cl, PC.nr, mf_r _ _ _ _ _, rt, _, rfl, .inr (.of f3), rfl, _, rfl, ite_eq (fun k => absurd k (by rw [hl2]; omega)) (fun _ => ?_)⟩
      refine ⟨_, rfl, x, C, dx, _, _, rfl, f1, PC.cl, PC.nr, mf_r _ _ _ _ _, rt, rfl, ⟨_, .of f3⟩, for_tup (K := K) (a := rt) (xs := as.map V.ref) (fun i σ H3 => ∃ v4 v5 v6 : Option V, σ = [some (.ref x), some (.int I), some (.int O), some (.int L), v4, v5, v6] ∧ H3 = H2) ⟨_, _, _, rfl, rfl⟩ (fun i σ H3 _ ⟨_, _, _, _, e⟩ => by rw [e]; exact .of f3) ?_ ?_⟩
      · rintro i y σ H3 hi ⟨v4, v5, v6, rfl, rfl⟩
        obtain ⟨a, haa, rfl⟩ := refs_get hi
        obtain ⟨bs, row, hrow, hra, hbl, hR⟩ := f4.g i a haa
        have hmem := List.mem_of_getElem? hrow
        have hbl2 : (bs.map V.ref).length = row.length := by rw [List.length_map, hbl]
        refine ⟨_, rfl, _, _, _, _, true, rfl, .ty "tuple", .base (.tup hra), kit_ty (by decide +kernel), true, rfl, ?_⟩
        refine ⟨_, rfl, a, _, rfl, .inr (.of hra), _, rfl, rfl, _, rfl, ite_ne (fun k => absurd (by rw [hbl2]; exact hV.w row hmem) k) (fun _ => ?_)⟩
        refine ⟨_, rfl, a, rfl, ⟨_, .of hra⟩, for_tup (K := K) (a := a) (xs := bs.map V.ref) (fun i σ H4 => ∃ v6 : Option V, σ = [some (.ref x), some (.int I), some (.int O), some (.int L), v4, some (.ref a), v6] ∧ H4 = H3) ⟨_, rfl, rfl⟩ (fun i σ H4 _ ⟨_, _, e⟩ => by rw [e]; exact .of hra) ?_ ?_⟩
        · rintro j y σ H4 hj ⟨v6, rfl, rfl⟩
          obtain ⟨b, hb, rfl⟩ := refs_get hj
          obtain ⟨t, l, hp, hbe⟩ := hR j b hb
          have hm2 := List.mem_of_getElem? hp
          have hst := hV.st row hmem _ hm2
          have hem := hV.em row hmem _ hm2
          have ec : (if (c.length : Int) > O then (c.length : Int) else O) ≥ O ∧ (if (c.length : Int) > O then (c.length : Int) else O) ≥ (c.length : Int) := by split <;> omega
          refine ⟨_, rfl, _, rfl, _, rfl, x, C, dx, _, _, rfl, f1, PC.cl, PC.nr, mf_r _ _ _ _ _, rt, _, rfl, .inr (.of f3), _, _, rfl, b, [t, l], 0, _, rfl, hbe, ?_, true, rfl, ?_⟩
          · rw [hl2]
            intro z hz
            simp only [List.mem_cons, List.not_mem_nil, or_false] at hz
            rcases hz with rfl | rfl
            · exact ⟨hst.1, by omega⟩
            · exact ⟨hem.1, by omega⟩
          refine ⟨_, rfl, b, _, rfl, .inr (.of hbe), rfl, _, rfl, ite_ne (fun k => absurd rfl k) (fun _ => ?_)⟩
          refine ⟨_, rfl, b, _, _, .int t, rfl, rfl, .of hbe, rfl, _, rfl, x, C, dx, _, _, rfl, f1, PC.cl, PC.nr, mf_r _ _ _ _ _, rt, _, rfl, .inr (.of f3), _, _, rfl, rfl, _, rfl, ite2 (fun k => ?_) (fun _ => ?_)⟩
          · have k := of_decide_eq_true k
            rw [hl2] at k
            omega
          refine ⟨_, rfl, b, _, _, .int l, rfl, rfl, .of hbe, rfl, _, rfl, _, _, rfl, rfl, _, rfl, ite2 (fun k => ?_) (fun _ => ⟨_, rfl, rfl⟩)⟩
          have k := of_decide_eq_true k
          omega
        · rintro σ H4 ⟨v6, rfl, rfl⟩
          exact ⟨_, _, _, rfl, rfl⟩
      · rintro σ H3 ⟨v4, v5, v6, rfl, rfl⟩
        exact q _ s1
def spFlatM : Sp := fun vs H Q _ => ∃ (r : Addr) (as : List Addr) (c : List (List (Int × Int))), vs = [.ref r] ∧ LPr H r as c ∧ c.length ≤ 1000 ∧
  ∀ (H' : Hp) (r' : Addr) (as' : List Addr), Same H H' → LPr H' r' as' c → H r' = none → (∀ b ∈ as', H b = none ∧ b ≠ r') → Q (.ref r') H'
theorem cal_flatM (T : Txt K mg cA0 PA0) : C8.Cal P w K mg base 1 "_law_flat" spFlatM [] := by
  obtain ⟨f, fd, F, hm, hb⟩ := T.h_law_flat
  refine ⟨f, fd, _, [], F.ok sc_law_flat (fun vs H Q E h => ?_) (fun cdv A outer s H vs Q E hr h => ?_), hm, F.kp, hb, .nil⟩
  · obtain ⟨r, as, c, rfl, _⟩ := h
    rfl
  · obtain ⟨r, as, c, rfl, hL, hc, q⟩ := h
    refine ⟨_, (pss_one
      (ps_ret (pe_lc (own := [("row", 1)]) (g := gName 1) (tt := tYes) rfl sc_law_flat.nd (pi_list (pv 0)) (blkOk_by (N := N_law_flat) (sc := defScope s_law_flat) (by decide +kernel)) (fun _ _ _ _ _ => (pg_name (i := 1) sc_law_flat.nd rfl (Or.inl rfl))) (fun _ _ _ _ _ => pts_nil) (fun _ _ _ _ _ => (pe_callTy (call_list_ofK (K := K) rfl) (by rfl) T.z_list (by decide +kernel) (pa_cons (pv 1) pa_nil)))))), ?_⟩
    have hl2 : (as.map V.ref).length = c.length := by rw [List.length_map, hL.2.len]
    refine ⟨_, rfl, r, rfl, ⟨_, .of hL.1⟩, fun D hD => lc_list (K := K) (a := r) (xs := as.map V.ref) (fun i H4 => ∃ as2 : List Addr, Same H H4 ∧ H4 D = some (.lst (as2.map V.ref)) ∧ RP .lst H4 as2 (c.take i) ∧ ∀ b ∈ as2, H b = none ∧ b ≠ D)
      ⟨[], same_new hD, upd_same, My.RP.nil, by simp⟩ (fun i H' _ ⟨_, z, _⟩ => .of (z _ _ hL.1)) ?_ ?_⟩
    · rintro i v H4 hi ⟨as2, s4, e4, R4, hf⟩
      obtain ⟨ra, hra, rfl⟩ := refs_get hi
      obtain ⟨bs, row, hrow, hae, hbl, hR⟩ := hL.2.g i ra hra
      have hil := (List.getElem?_eq_some_iff.mp hrow).1
      refine ⟨rfl, _, rfl, ra, _, rfl, .inl (.of (s4 _ _ hae)), fun t ht => ?_⟩
      have s5 := same_new (o := .lst (bs.map V.ref)) ht
      have e5 := upd_same (H := H4) (a := t) (o := .lst (bs.map V.ref))
      generalize upd H4 t (.lst (bs.map V.ref)) = H5 at s5 e5 ⊢
      have nDt : t ≠ D := fun z => by rw [z, e4] at ht; cases ht
      have hal := R4.len
      rw [List.length_take] at hal
      have eD5 := s5 _ _ e4
      have tu := tup_upd (o := .lst (as2.map V.ref ++ [.ref t])) eD5
      refine ⟨_, eD5, by rw [List.length_map]; exact Nat.lt_of_le_of_lt (show as2.length ≤ 1000 by omega) (by decide), as2 ++ [t], fun d u hd => ?_, by rw [upd_same, List.map_append]; rfl, ?_, fun b hb => ?_⟩
      · rw [upd_ne (ne_of_none hd hD)]
        exact s5 _ _ (s4 _ _ hd)
      · rw [take_get hrow]
        refine My.RP.snoc (My.RP.keep (R4.same s5) (fun b hb o h => by rw [upd_ne (hf b hb).2]; exact h) tu) (bs := bs) (by rw [upd_ne nDt]; exact e5) hbl fun m b hb => ?_
        obtain ⟨t', l', g1, g2⟩ := hR m b hb
        exact ⟨t', l', g1, tu _ _ (s5 _ _ (s4 _ _ g2))⟩
      · rcases List.mem_append.mp hb with y | y
        · exact hf b y
        · rw [List.mem_singleton.mp y]; exact ⟨s4.free ht, nDt⟩
    · rintro H4 ⟨as2, s4, e4, R4, hf⟩
      rw [hl2, List.take_length] at R4
      exact q H4 D as2 s4 ⟨e4, R4⟩ hD hf
theorem shaped_of {d : PyData} (h1 : d.canLay0 = true) (h2 : d.depth ≤ 64) : SeqAt.shaped d = true := by
  unfold SeqAt.shaped
  rw [h1, decide_eq_true h2]
  rfl
def dPr (p : Int × Int) : PyData := .tuple [.int p.1, .int p.2]
def dRw (r : List (Int × Int)) : PyData := .list (r.map dPr)
def dTb (c : List (List (Int × Int))) : PyData := .list (c.map dRw)
theorem layPr : ∀ r : List (Int × Int), PyData.canLayAll0 (r.map dPr) = true
  | [] => rfl
  | p :: r => by
    rw [List.map_cons, PyData.canLayAll0, layPr r]
    rfl
theorem layRw : ∀ c : List (List (Int × Int)), PyData.canLayAll0 (c.map dRw) = true
  | [] => rfl
  | r :: c => by
    rw [List.map_cons, PyData.canLayAll0, layRw c]
    unfold dRw
    rw [PyData.canLay0, layPr]
    rfl
theorem lay_tb (c : List (List (Int × Int))) : (dTb c).canLay0 = true := by
  unfold dTb
  rw [PyData.canLay0, layRw]
theorem depPr : ∀ r : List (Int × Int), PyData.depthAll (r.map dPr) ≤ 1
  | [] => by simp [PyData.depthAll]
  | p :: r => by
    have := depPr r
    rw [List.map_cons, PyData.depthAll]
    have e : (dPr p).depth = 1 := by simp [dPr, PyData.depth, PyData.depthAll]
    omega
theorem depRw : ∀ c : List (List (Int × Int)), PyData.depthAll (c.map dRw) ≤ 2
  | [] => by simp [PyData.depthAll]
  | r :: c => by
    have := depRw c
    have := depPr r
    rw [List.map_cons, PyData.depthAll]
    have e : (dRw r).depth = PyData.depthAll (r.map dPr) + 1 := by unfold dRw; rw [PyData.depth]
    omega
theorem dep_tb (c : List (List (Int × Int))) : (dTb c).depth ≤ 3 := by
  unfold dTb
  have := depRw c
  rw [PyData.depth]
  omega
theorem shaped_tb (c : List (List (Int × Int))) : SeqAt.shaped (dTb c) = true := shaped_of (lay_tb c) (by have := dep_tb c; omega)
theorem dpAll_pr {K : PySem.W.Frag} {H : Hp} : ∀ {bs : List Addr} {r : List (Int × Int)}, bs.length = r.length → (∀ (j : Nat) (b : Addr), bs[j]? = some b → ∃ t l, r[j]? = some (t, l) ∧ H b = some (.tup [.int t, .int l])) → DpAll K H (bs.map V.ref) (r.map dPr)
  | [], [], _, _ => .nil
  | b :: bs, p :: r, hl, h => by
    obtain ⟨t, l, h1, h2⟩ := h 0 b rfl
    cases h1
    exact .cons (.tup (.of h2) (.cons (.int _) (.cons (.int _) .nil))) (dpAll_pr (Nat.succ.inj hl) fun j b' hj => h (j + 1) b' hj)
  | [], _ :: _, hl, _ => by cases hl
  | _ :: _, [], hl, _ => by cases hl
theorem dpAll_rw {K : PySem.W.Frag} {H : Hp} : ∀ {as : List Addr} {c : List (List (Int × Int))}, RP .lst H as c → DpAll K H (as.map V.ref) (c.map dRw)
  | [], [], _ => .nil
  | a :: as, r :: c, h => by
    obtain ⟨bs, row, h1, h2, h3, h4⟩ := h.g 0 a rfl
    cases h1
    exact .cons (.lst (.of h2) (dpAll_pr h3 h4)) (dpAll_rw ⟨Nat.succ.inj h.len, fun i a' e => h.g (i + 1) a' e⟩)
  | [], _ :: _, h => by have := h.len; cases this
  | _ :: _, [], h => by have := h.len; cases this
theorem dp_tb {K : PySem.W.Frag} {H : Hp} {r : Addr} {as : List Addr} {c : List (List (Int × Int))} (h : LPr H r as c) : Dp K H (.ref r) (dTb c) := .lst (.of h.1) (dpAll_rw h.2)
def dM2 (op : List Int) (c : List (List (Int × Int))) : PyData := .list [.list (op.map PyData.int), dTb c]
theorem lay_m2 (op : List Int) (c : List (List (Int × Int))) : (dM2 op c).canLay0 = true := by
  unfold dM2
  rw [PyData.canLay0, PyData.canLayAll0, PyData.canLayAll0, PyData.canLayAll0, PyData.canLay0, layAll, lay_tb]
  rfl
theorem shaped_m2 (op : List Int) (c : List (List (Int × Int))) : SeqAt.shaped (dM2 op c) = true := by
  refine shaped_of (lay_m2 op c) ?_
  unfold dM2
  have := dep_tb c
  rw [PyData.depth, PyData.depthAll, PyData.depthAll, PyData.depthAll, PyData.depth, depAll]
  omega
theorem dp_m2 {K : PySem.W.Frag} {H : Hp} {t oa r : Addr} {as : List Addr} {op : List Int} {c : List (List (Int × Int))} (ht : H t = some (.lst [.ref oa, .ref r])) (ho : H oa = some (.lst (op.map V.int))) (hr : LPr H r as c) : Dp K H (.ref t) (dM2 op c) := .lst (.of ht) (.cons (dp_lst ho) (.cons (dp_tb hr) .nil))
def KLs (S : List Addr) (H H' : Hp) : Prop := ∀ b o, b ∉ S → H b = some o → H' b = some o
theorem mch_kl {C : Addr} {S : List Addr} {H H' : Hp} {x : Addr} {I O L : Int} {op : List Int} {c : List (List (Int × Int))} (k : KLs S H H') (hs : ∀ b ∈ S, ∃ ys, H b = some (.lst ys)) (h : MchAt C H x I O L op c) : MchAt C H' x I O L op c := by
  obtain ⟨dx, ot, rt, as, e1, e2, e3, e4⟩ := h
  have nl : ∀ {b : Addr} {o : HO}, H b = some o → (∀ ys, o ≠ .lst ys) → b ∉ S := fun hb hn z => by
    obtain ⟨ys, y⟩ := hs _ z
    rw [hb] at y
    exact hn ys (Option.some.inj y)
  exact ⟨dx, ot, rt, as, k _ _ (nl e1 fun ys z => by cases z) e1, k _ _ (nl e2 fun ys z => by cases z) e2, k _ _ (nl e3 fun ys z => by cases z) e3, RP.keepT (fun b xs hb => k _ _ (nl hb fun ys z => by cases z) hb) e4⟩
theorem nd_of {H : Hp} {b d : Addr} (hd : Drw H d) (h : H b = none) : b ≠ d := fun z => by
  obtain ⟨o, y⟩ := hd
  rw [← z, h] at y
  cases y
theorem sameM_made {C x dx : Addr} {H1 H2 : Hp} (hx : H1 x = none) (hd : H1 dx = none) (k : Kp x (upd (upd H1 dx (.own x)) x (.ins C dx [])) H2) : Same H1 H2 := fun b o hb => by
  have n1 : b ≠ x := fun z => by rw [z, hx] at hb; cases hb
  have n2 : b ≠ dx := fun z => by rw [z, hd] at hb; cases hb
  refine k _ _ n1 ?_
  rw [upd_ne n1, upd_ne n2]
  exact hb
theorem sameM_fresh {C x dx : Addr} {H1 : Hp} (hx : H1 x = none) (hd : H1 dx = none) : Same H1 (upd (upd H1 dx (.own x)) x (.ins C dx [])) := sameM_made hx hd (Kp.refl _ _)
theorem ord_ex {κ : Type} {lab : Nat → κ} {mv : Nat → Nat → Nat} {l n s : Nat} {f : Nat → Nat} (hP : Bq.Pick lab mv l n f) (hs : s < n) : ∃ M, Bq.OrdQ mv l s f M := by
  refine ⟨Bq.GG (f s) (fun b => (Bq.rowM mv l b).map f) n, Bq.gg_ord ?_⟩
  have hU := Bq.gg_in (U := (· < n)) (s := f s) (r := fun b => (Bq.rowM mv l b).map f) (hP.fp s hs).1 (fun x hx t ht => by
    obtain ⟨y, hy, rfl⟩ := List.mem_map.mp ht
    obtain ⟨a, ha, rfl⟩ := List.mem_map.mp hy
    exact (hP.fp _ (hP.cl x a hx (List.mem_range.mp ha))).1) n
  have := List.Nodup.length_le_of_subset (Bq.gg_nd (f s) (fun b => (Bq.rowM mv l b).map f) n) (l₂ := List.range n) fun x hx => List.mem_range.mpr (hU x hx)
  rwa [List.length_range] at this
theorem tabs0 {H : Hp} (h0 : H PA0 = some (.tbl #[])) : NdefX.TabsN (TbT PA0) H := fun pp hpp => by
  rw [List.mem_singleton.mp hpp]; exact NdefX.TabN.nil h0
theorem lpr_ext {H H' : Hp} {r : Addr} {as : List Addr} {c : List (List (Int × Int))} (s : LamX.ExtN H H') (h : LPr H r as c) : LPr H' r as c :=
  ⟨s _ _ h.1 (by intro ps z; cases z), ⟨h.2.len, fun i a e => by
    obtain ⟨bs, row, h1, h2, h3, h4⟩ := h.2.g i a e
    exact ⟨bs, row, h1, s _ _ h2 (by intro ps z; cases z), h3, fun j b hb => by obtain ⟨t, l, h5, h6⟩ := h4 j b hb; exact ⟨t, l, h5, s _ _ h6 (by intro ps z; cases z)⟩⟩⟩⟩
theorem ok_law {f : Addr} {fd : FuncData} (F : L2.Fun K "law" "law" s_law f fd) (T : Txt K mg cA0 PA0) (TB0 : LamX.TabB base mg cA0 PA0) : FnOk P w K mg base CX0 8 f fd ["script"] (spLaw K PA0) := by
  obtain ⟨cX, cI, cL, C, fI, fC, fdI, fdC, tk1, tk2, eI, eL, PC, hM, gC, F0, hB, CO, F1, hB1, gLL, gGL, eX⟩ := T.er
  have MK : MakX P w K mg base 2 "Machine" C (spInitM C cI) := ⟨fI, fdI, _, hM, ok_initM T eI PC gLL gGL F0, gC, hB⟩
  have C_law_draws : C8.Cal P w K mg base 1 "_law_draws" (spDraws K) [] := cal_draws T
  have C_law_take : C8.Cal P w K mg base 1 "_law_take" spTake [] := cal_take T
  have C_law_machine : C8.Cal P w K mg base 2 "_law_machine" spMach [] := cal_mach T
  have C_law_flat : C8.Cal P w K mg base 1 "_law_flat" spFlatM [] := cal_flatM T
  have C_law_is_machine : C8.Cal P w K mg base 3 "_law_is_machine" (spIsM C) [] := cal_ism T PC
  have C_law_least : C8.Cal P w K mg base 2 "_law_least" spLle [] := cal_lle T
  have C_minimize : C8.Cal P w K mg base 4 "minimize" (spMin C PA0) [] := cal_min T TB0 eI PC hM gC F0 hB gLL gGL
  have X_separating_word : CalX P w K mg base 1 "separating_word" (spSep C cX) := cal_sep T PC eX
  refine F.ok sc_law (fun vs H Q E h => ?_) (fun cdv A outer s H vs Q E hr h => ?_)
  · obtain ⟨a, ns, rfl, _⟩ := h
    rfl
  · obtain ⟨sa, ns, rfl, hS, hlen, hP0, q⟩ := h
    refine ⟨_, (pss_cons
      (ps_set (i := 1) sc_law.nd rfl (Or.inl rfl) (C8.pe_c C_law_draws hr (by decide) (by rfl) (pa_cons (pv 0) (pa_cons pe_int pa_nil))))
      (pss_cons
      (ps_set (i := 2) sc_law.nd rfl (Or.inl rfl) (pe_op op_add pe_int (C8.pe_c C_law_take hr (by decide) (by rfl) (pa_cons (pv 1) (pa_cons pe_int pa_nil)))))
      (pss_cons
      (ps_set (i := 3) sc_law.nd rfl (Or.inl rfl) (pe_op op_add pe_int (C8.pe_c C_law_take hr (by decide) (by rfl) (pa_cons (pv 1) (pa_cons pe_int pa_nil)))))
      (pss_cons
      (ps_set (i := 4) sc_law.nd rfl (Or.inl rfl) (pe_op op_sub (C8.pe_c C_law_take hr (by decide) (by rfl) (pa_cons (pv 1) (pa_cons pe_int pa_nil))) pe_int))
      (pss_cons
      (ps_asg (C8.pe_c C_law_machine hr (by decide) (by rfl) (pa_cons (pv 1) (pa_cons (pv 2) (pa_cons (pv 3) (pa_cons (pv 4) (pa_cons pe_int pa_nil)))))) (pg_tup (by rfl) (pgs_cons (pg_name (i := 5) sc_law.nd rfl (.inl rfl)) (pgs_cons (pg_name (i := 6) sc_law.nd rfl (.inl rfl)) pgs_nil))))
      (pss_cons
      (ps_set (i := 7) sc_law.nd rfl (Or.inl rfl) (pe_makeN MK hr (by decide) (by rfl) (pa_cons (pv 2) (pa_cons (pv 3) (pa_cons (pv 4) (pa_cons (pe_callTy (call_list_ofK (K := K) rfl) (by rfl) T.z_list (by decide +kernel) (pa_cons (pv 5) pa_nil)) (pa_cons (C8.pe_c C_law_flat hr (by decide) (by rfl) (pa_cons (pv 6) pa_nil)) pa_nil)))))))
      (pss_cons
      (ps_set (i := 8) sc_law.nd rfl (Or.inl rfl) (C8.pe_c C_minimize hr (by decide) (by rfl) (pa_cons (pv 7) pa_nil)))
      (pss_cons
      (ps_set (i := 9) sc_law.nd rfl (Or.inl rfl) (C8.pe_c C_minimize hr (by decide) (by rfl) (pa_cons (pv 8) pa_nil)))
      (pss_cons
      (ps_for PassesOwn.never rfl (pi_tup (pe_tup (pa_cons (pv 8) (pa_cons (pv 9) pa_nil)))) (pg_name (i := 10) sc_law.nd rfl (.inl rfl)) (pss_cons
      (ps_if (PW.pt (pw_or (pt_not (pt_val (C8.pe_c C_law_is_machine hr (by decide) (by rfl) (pa_cons (pv 10) (pa_cons (pv 2) (pa_cons (pv 3) (pa_cons (pv 4) pa_nil))))))) (pw_or1 (pt_cmpR (op_neDK (K := K) rfl hr.units) (pe_callTy (call_list_ofK (K := K) rfl) (by rfl) T.z_list (by decide +kernel) (pa_cons (pe_fld (pv 10) rfl) pa_nil)) (pv 5) (nomark _))))) (pss_one
      (ps_ret pe_bl)) pss_nil)
      (pss_one
      (ps_if (pt_cmpR (op_neDK (K := K) rfl hr.units) (pe_lc (own := [("row", 11)]) (g := gName 11) (tt := tYes) rfl sc_law.nd (pi_tup (pe_fld (pv 10) rfl)) (blkOk_by (N := N_law) (sc := defScope s_law) (by decide +kernel)) (fun _ _ _ _ _ => (pg_name (i := 11) sc_law.nd rfl (Or.inl rfl))) (fun _ _ _ _ _ => pts_nil) (fun _ _ _ _ _ => (pe_callTy (call_list_ofK (K := K) rfl) (by rfl) T.z_list (by decide +kernel) (pa_cons (pv 11) pa_nil)))) (C8.pe_c C_law_least hr (by decide) (by rfl) (pa_cons (pv 6) pa_nil)) (nomark _)) (pss_one
      (ps_ret pe_bl)) pss_nil))))
      (pss_one
      (ps_ret (pe_cmpR op_isN (pe_cx X_separating_word hr (by decide) takes_none5 (by rfl) (pa_cons (pv 7) (pa_cons (pv 8) pa_nil))) pe_non (nomark _))))))))))))), ?_⟩
    refine ⟨_, rfl, sa, ns, 100, rfl, hS, by decide, fun H1 d s1 hd0 d1 => ?_⟩
    have n0d : PA0 ≠ d := fun z => by rw [z, hd0] at hP0; cases hP0
    have hP0 := s1 _ _ hP0
    refine ⟨_, rfl, d, 3, rfl, d1, by decide, fun iv ds i0 i1 => ?_⟩
    have d2 : Drw (upd H1 d (.lst (ds.map V.int))) d := Drw.own
    have hP0 : (upd H1 d (.lst (ds.map V.int))) PA0 = some (.tbl #[]) := by rw [upd_ne n0d]; exact hP0
    generalize upd H1 d (.lst (ds.map V.int)) = H2 at d2 hP0 ⊢
    refine ⟨_, _, rfl, rfl, ?_⟩
    show gName 2 (V.int (1 + iv)) _ _ _
    have hI1 : 1 ≤ 1 + iv := by omega
    have hI3 : 1 + iv ≤ 3 := by omega
    generalize 1 + iv = I at hI1 hI3 ⊢
    refine ⟨_, rfl, d, 2, rfl, d2, by decide, fun ov ds3 o0 o1 => ?_⟩
    have d3 : Drw (upd H2 d (.lst (ds3.map V.int))) d := Drw.own
    have hP0 : (upd H2 d (.lst (ds3.map V.int))) PA0 = some (.tbl #[]) := by rw [upd_ne n0d]; exact hP0
    generalize upd H2 d (.lst (ds3.map V.int)) = H3 at d3 hP0 ⊢
    refine ⟨_, _, rfl, rfl, ?_⟩
    show gName 3 (V.int (1 + ov)) _ _ _
    have hO1 : 1 ≤ 1 + ov := by omega
    have hO3 : 1 + ov ≤ 2 := by omega
    generalize 1 + ov = O at hO1 hO3 ⊢
    refine ⟨_, rfl, d, 6, rfl, d3, by decide, fun lv ds4 l0 l1 => ?_⟩
    have d4 : Drw (upd H3 d (.lst (ds4.map V.int))) d := Drw.own
    have hP0 : (upd H3 d (.lst (ds4.map V.int))) PA0 = some (.tbl #[]) := by rw [upd_ne n0d]; exact hP0
    generalize upd H3 d (.lst (ds4.map V.int)) = H4 at d4 hP0 ⊢
    refine ⟨_, _, rfl, rfl, ?_⟩
    show gName 4 (V.int (lv - 3)) _ _ _
    have hL0 : -3 ≤ lv - 3 := by omega
    have hL1 : lv - 3 ≤ 2 := by omega
    generalize lv - 3 = L at hL0 hL1 ⊢
    clear d1 d2 d3 s1 i0 i1 o0 o1 l0 l1
    refine ⟨_, rfl, _, rfl, _, rfl, _, rfl, d, I, O, L, 6, rfl, d4, by omega, by omega, by omega, by omega, by omega, by decide, by decide, fun H5 t oa r as op c k5 d5 et ho hL g1 g2 g3 hV hc4 => ?_⟩
    have hP0 := k5 _ _ n0d hP0
    refine ⟨t, _, rfl, .of et, rfl, _, _, rfl, _, _, rfl, rfl, ?_⟩
    clear k5 et d4
    have hcn : 0 < c.length := List.length_pos_iff.mpr hV.ne
    have hopL := hV.op_len
    have hop : op.length ≤ 3 := by omega
    obtain ⟨lab, mv, l, rfl, hl1, hcc, hcl, hll⟩ := cells_of hV
    generalize hn : c.length = n at hcc hcl hll hc4 hcn
    subst hcc
    have hl3 : l ≤ 3 := by omega
    refine ⟨_, rfl, _, rfl, _, rfl, _, rfl, oa, _, rfl, .inl (.of ho), fun PO nPO => ?_⟩
    generalize hX : upd H5 PO _ = H6; obtain ⟨sH6, ePO⟩ := nw nPO hX; clear hX
    refine ⟨_, rfl, r, as, _, rfl, hL.same sH6, by rw [cells_len]; omega, fun H7 PR as2 s7 hL7 nPR nas => ?_⟩
    refine fun x dx hx hdx hne => ?_
    have s8 := sameM_fresh (C := C) hx hdx
    refine ⟨x, PO, PR, dx, (l : Int), O, L, op, as2, _, rfl, upd_same, .inl (s8 _ _ (s7 _ _ ePO)), hL7.same s8, by omega, by rw [cells_len]; omega, fun q hq => by have := hV.w q hq; omega, fun z => absurd hV z, fun _ H8 k8 A8 => ⟨rfl, ?_⟩⟩
    have s58 : Same H5 H8 := (sH6.trans s7).trans (sameM_made hx hdx k8)
    clear s8 k8 hx hdx hne s7 hL7 nPR nas sH6 ePO nPO
    have hTb := tabs0 (s58 _ _ hP0)
    obtain ⟨hP, _⟩ := fEk_pickG (lab := lab) (mv := mv) (l := l) (n := n) (e := eB lab mv l (n + 1)) hcl (fun i j hi hj => eB_iff hll hcl n i j hi hj)
    obtain ⟨M, hM'⟩ := ord_ex hP hcn
    generalize hf : fEk (eB lab mv l (n + 1)) n = f at hP hM'
    refine ⟨_, rfl, x, O, L, op, lab, mv, l, n, f, M, rfl, A8, hV, hcn, by omega, by omega, by omega, hll, hP, hM', hTb, fun H9 y x9 tb9 A9 => ?_⟩
    have hVq := vm_q hV hcn hll hP hM'
    have hMl : M.length ≤ 6 := by
      have := List.Nodup.length_le_of_subset (Bq.ord_nd hM') (l₂ := List.range n) fun b hb => List.mem_range.mpr (Bq.ordq_fix hP hcn hM' b hb).1
      rw [List.length_range] at this
      omega
    have hM0 : 0 < M.length := (List.getElem?_eq_some_iff.mp (Bq.ord_start hM')).1
    have hll2 : ∀ i, i < M.length → (Bq.qlab lab M i).length = l := fun i hi => hll _ (Bq.ordq_fix hP hcn hM' _ (Bq.getD_mem hi)).1
    refine ⟨_, rfl, y, O, L, op, Bq.qlab lab M, Bq.qmv mv f M, l, M.length, id, List.range M.length, rfl, A9, hVq, hM0, by omega, by omega, by omega, hll2, Bq.quot_pick hP hcn hM', Bq.quot_ord hP hcn hM', tb9, fun H10 z x10 tb10 A10 => ?_⟩
    rw [qcells_q hM'] at A10
    have A10y := mch_ext x10 A9
    have A10x := mch_ext x10 (mch_ext x9 A8)
    have x510 := ext_trans (ext_of s58) (ext_trans x9 x10)
    have ho10 := x510 _ _ ho (by intro ps z; cases z)
    have hL10 := lpr_ext x510 hL
    clear A8 A9 s58 x9 x10 x510 hTb tb9 tb10 hP0 ho hL g1 g2 g3 d5
    refine ⟨_, rfl, _, rfl, by show 2 ≤ sizeLine; decide, fun tp ntp => ?_⟩
    generalize hX : upd H10 tp _ = H11; obtain ⟨sH11, etp⟩ := nw ntp hX; clear hX
    refine ⟨tp, rfl, ⟨_, .of etp⟩, for_tup (K := K) (a := tp) (xs := [.ref y, .ref z]) (fun i σ H' => ∃ v10 : Option V, σ = [some (.ref sa), some (.ref d), some (.int l), some (.int O), some (.int L), some (.ref oa), some (.ref r), some (.ref x), some (.ref y), some (.ref z), v10, none] ∧ Same H11 H')
      ⟨none, rfl, Same.refl _⟩ (fun i σ H' _ ⟨_, _, z⟩ => .of (z _ _ etp)) ?_ ?_⟩
    · rintro i v σ H12 hi ⟨v10, rfl, s12⟩
      have s12' := sH11.trans s12
      obtain ⟨u, rfl, Au⟩ : ∃ u, v = V.ref u ∧ MchAt C H12 u (l : Int) O L op (qcells lab mv l f M) := by
        match i, hi with
        | 0, hi => cases hi; exact ⟨y, rfl, mch_same s12' A10y⟩
        | 1, hi => cases hi; exact ⟨z, rfl, mch_same s12' A10⟩
      refine ⟨_, rfl, _, rfl, _, rfl, _, rfl, u, (l : Int), O, L, op, _, rfl, Au, hVq, by omega, by rw [cells_len]; omega, fun H13 s13 => ⟨true, rfl, iteB_f (c := !true) rfl ?_⟩⟩
      have Au := mch_same s13 Au
      obtain ⟨du, ot, rt, as3, e1, e2, e3, e4⟩ := id Au
      refine ⟨_, rfl, u, C, du, _, _, rfl, e1, PC.cl, PC.no, mf_o _ _ _ _ _, ot, _, rfl, .inr (.of e2), fun p1 np1 => ?_⟩
      generalize hX : upd H13 p1 _ = H14; obtain ⟨sH14, ep1⟩ := nw np1 hX; clear hX
      have s1114 := (s12.trans s13).trans sH14
      refine ⟨_, rfl, _, _, dp_lst ep1, dp_lst (s1114 _ _ (sH11 _ _ ho10)), shaped_of (by rw [PyData.canLay0, layAll]) (by rw [PyData.depth, depAll]; decide), shaped_of (by rw [PyData.canLay0, layAll]) (by rw [PyData.depth, depAll]; decide), _, rfl, ?_⟩
      rw [SeqAt.eqv_refl _ (by rw [PyData.canLay0, layAll])]
      refine iteB_f rfl ?_
      have f1 := sH14 _ _ e1
      have f3 := sH14 _ _ e3
      refine ⟨_, rfl, u, C, du, _, _, rfl, f1, PC.cl, PC.nr, mf_r _ _ _ _ _, rt, rfl, ⟨_, .of f3⟩, fun D nD => ?_⟩
      refine lc_tup (K := K) (a := rt) (xs := as3.map V.ref) (fun i H' => Same H14 H' ∧ ∃ gs : List Addr, H' D = some (.lst (gs.map V.ref)) ∧ D ∉ gs ∧ RP .lst H' gs ((qcells lab mv l f M).take i))
        ⟨same_new nD, [], upd_same, by simp, My.RP.nil⟩ (fun j H' _ ⟨z, _⟩ => .of (z _ _ f3)) ?_ ?_
      · rintro j v H15 hj ⟨s15, gs, eD, nDg, hgs⟩
        obtain ⟨a, ha, rfl⟩ := refsg hj
        obtain ⟨bs, row, h1, h2, h3, h4⟩ := e4.g j a ha
        have ea := s15 _ _ (sH14 _ _ h2)
        have hgl := hgs.len
        have hjl := lt_of_get h1
        rw [cells_len] at hjl
        rw [List.length_take, cells_len, Nat.min_eq_left (by omega)] at hgl
        refine ⟨rfl, _, rfl, a, _, rfl, .inr (.of ea), fun t nt => ?_⟩
        generalize hX : upd H15 t _ = H16; obtain ⟨sH16, et⟩ := nw nt hX; clear hX
        have eD16 := sH16 _ _ eD
        have ntD : t ≠ D := fun z => by rw [z, eD] at nt; cases nt
        refine ⟨_, eD16, by rw [List.length_map, hgl]; exact Nat.lt_of_le_of_lt (show j ≤ 100 by omega) (by decide), fun q o e => ?_, gs ++ [t], by rw [upd_same, List.map_append]; rfl, by rw [List.mem_append, List.mem_singleton]; exact fun z => z.elim nDg fun y => ntD y.symm, ?_⟩
        · rw [upd_ne (ne_of_none e nD)]
          exact sH16 _ _ (s15 _ _ e)
        · have kt : ∀ {c xs}, H16 c = some (.tup xs) → (upd H16 D (.lst (gs.map V.ref ++ [V.ref t]))) c = some (.tup xs) := fun {c xs} e => by rw [upd_ne (fun z => by rw [z, eD16] at e; cases e)]; exact e
          rw [List.take_add_one, h1]
          refine My.RP.snoc (bs := bs) ?_ (by rw [upd_ne ntD]; exact et) h3 fun k b hb => ?_
          · refine ⟨hgs.len, fun m a' e => ?_⟩
            obtain ⟨bs', row', q1, q2, q3, q4⟩ := hgs.g m a' e
            have naD : a' ≠ D := fun z => nDg (z ▸ List.mem_of_getElem? e)
            exact ⟨bs', row', q1, by rw [upd_ne naD]; exact sH16 _ _ q2, q3, fun k b hb => by obtain ⟨t, u, h5, h6⟩ := q4 k b hb; exact ⟨t, u, h5, kt (sH16 _ _ h6)⟩⟩
          · obtain ⟨t', u', h5, h6⟩ := h4 k b hb
            exact ⟨t', u', h5, kt (sH16 _ _ (s15 _ _ (sH14 _ _ h6)))⟩
      rintro H15 ⟨s15, gs, eD, nDg, hgs⟩
      rw [List.length_map, show as3.length = (qcells lab mv l f M).length from e4.len, List.take_length] at hgs
      have hL15 := (((hL10.same sH11).same s1114).same s15)
      refine ⟨_, rfl, r, as, lab, mv, l, n, rfl, hL15, hcn, by omega, by omega, hll, hcl, fun H16 tt as' M' s16 hLq hMq => ?_⟩
      rw [hf] at hLq hMq
      obtain rfl : M' = M := Bq.ord_uniq hMq hM'
      refine ⟨_, _, dp_tb (r := D) ⟨s16 _ _ eD, hgs.same s16⟩, dp_tb hLq, shaped_tb _, shaped_tb _, _, rfl, ?_⟩
      rw [SeqAt.eqv_refl _ (lay_tb _)]
      exact iteB_f rfl ⟨_, rfl, (s1114.trans s15).trans s16⟩
    · rintro σ H12 ⟨v10, rfl, s12⟩
      have s12' := sH11.trans s12
      have hns := no_sep hcn hP hM'
      refine ⟨_, rfl, _, rfl, x, y, (l : Int), O, L, (l : Int), O, L, op, op, _, _, rfl, mch_same s12' A10x, mch_same s12' A10y, hV, hVq, by omega, by omega, by rw [cells_len]; omega, by rw [cells_len]; omega, by omega, fun h => absurd rfl h, fun _ h => absurd rfl h, fun _ _ => ⟨fun H' s' _ => ⟨rfl, ?_⟩, fun H' t w s' hw hR => ?_⟩⟩
      · show Q (.bl (decide (V.non = V.non))) H'
        rw [decide_eq_true rfl]
        exact q _
      · have := res_uniq hR hns
        cases this
end

theorem all_mk {l : PySem.W.OpenLaw} {w : World} {K : PySem.W.Frag} {h : Heap} {mg : Str → Option Value} {fa : Addr} {f0 f1 f2 f3 f4 f5 f6 f7 f8 f9 f10 f11 f12 f13 f14 f15 f16 f17 f18 cA0 PA0 cX cI cL C fI fC : Addr} (X : K.In h) (G : h.Ns mainGlobals mg) (hfa : mg "law" = some (.ref fa))
    {od0 an0 od1 an1 od2 an2 od3 an3 od4 an4 od5 an5 od6 an6 od7 an7 od8 an8 od9 an9 od10 an10 od11 an11 od12 an12 od13 an13 od14 an14 od15 an15 od16 an16 od17 an17 od18 an18 : Option Addr} {sl0 sl1 sl2 sl3 sl4 sl5 sl6 sl7 sl8 sl9 sl10 sl11 sl12 sl13 sl14 sl15 sl16 sl17 sl18 : Array (Option Value)} {oc0 kV0 dc0 pm0 cd0 ct0 oc1 kV1 dc1 pm1 ct1 oc2 kV2 dc2 pm2 cd2 ct2 oc3 kV3 dc3 pm3 cd3 ct3 oc4 kV4 dc4 pm4 cd4 ct4 oc5 kV5 dc5 pm5 cd5 ct5 oc6 kV6 dc6 pm6 cd6 ct6 oc7 kV7 dc7 pm7 cd7 ct7 oc8 kV8 dc8 pm8 cd8 ct8 oc9 kV9 dc9 pm9 cd9 ct9 oc10 kV10 dc10 pm10 cd10 ct10 oc11 kV11 dc11 pm11 cd11 ct11 oc12 kV12 dc12 pm12 cd12 ct12 oc13 kV13 dc13 pm13 cd13 ct13 oc14 kV14 dc14 pm14 cd14 ct14 oc15 kV15 dc15 pm15 cd15 ct15 oc16 kV16 dc16 pm16 cd16 ct16 oc17 kV17 dc17 pm17 cd17 ct17 oc18 kV18 dc18 pm18 cd18 ct18 : Value} {odI anI : Option Addr} {slI : Array (Option Value)} {ocI kVI dcI pmI cdI ctI : Value} {odJ anJ : Option Addr} {slJ : Array (Option Value)} {ocJ kVJ dcJ pmJ cdJ ctJ : Value} {tk1 tk2 : Tok}
    (a0 : PySem.W.nsIn K mainGlobals "explore" = some (some (.ref f0))) (l0 : K.lookup f0 = some ⟨oc0, od0, .func (PySem.W.fnOf "explore" "explore" (defArgs s_explore) (defBody s_explore) (defScope s_explore) .none kV0 dc0 pm0 an0 cd0 ct0), sl0⟩) (c0 : PySem.W.codeIn K cd0 "explore" = true) (k0 : PySem.W.keepIn K (.ref f0) = true)
    (a1 : PySem.W.nsIn K mainGlobals "without_alike" = some (some (.ref f1))) (l1 : K.lookup f1 = some ⟨oc1, od1, .func (PySem.W.fnOf "without_alike" "without_alike" (defArgs s_without_alike) (defBody s_without_alike) (defScope s_without_alike) .none kV1 dc1 pm1 an1 (.ref cA0) ct1), sl1⟩) (c1 : PySem.W.codeIn K (.ref cA0) "without_alike" = true) (k1 : PySem.W.keepIn K (.ref f1) = true)
    (a2 : PySem.W.nsIn K mainGlobals "alike_classes" = some (some (.ref f2))) (l2 : K.lookup f2 = some ⟨oc2, od2, .func (PySem.W.fnOf "alike_classes" "alike_classes" (defArgs s_alike_classes) (defBody s_alike_classes) (defScope s_alike_classes) .none kV2 dc2 pm2 an2 cd2 ct2), sl2⟩) (c2 : PySem.W.codeIn K cd2 "alike_classes" = true) (k2 : PySem.W.keepIn K (.ref f2) = true)
    (a3 : PySem.W.nsIn K mainGlobals "numbered" = some (some (.ref f3))) (l3 : K.lookup f3 = some ⟨oc3, od3, .func (PySem.W.fnOf "numbered" "numbered" (defArgs s_numbered) (defBody s_numbered) (defScope s_numbered) .none kV3 dc3 pm3 an3 cd3 ct3), sl3⟩) (c3 : PySem.W.codeIn K cd3 "numbered" = true) (k3 : PySem.W.keepIn K (.ref f3) = true)
    (a4 : PySem.W.nsIn K mainGlobals "check_rows" = some (some (.ref f4))) (l4 : K.lookup f4 = some ⟨oc4, od4, .func (PySem.W.fnOf "check_rows" "check_rows" (defArgs s_check_rows) (defBody s_check_rows) (defScope s_check_rows) .none kV4 dc4 pm4 an4 cd4 ct4), sl4⟩) (c4 : PySem.W.codeIn K cd4 "check_rows" = true) (k4 : PySem.W.keepIn K (.ref f4) = true)
    (a5 : PySem.W.nsIn K mainGlobals "check_said" = some (some (.ref f5))) (l5 : K.lookup f5 = some ⟨oc5, od5, .func (PySem.W.fnOf "check_said" "check_said" (defArgs s_check_said) (defBody s_check_said) (defScope s_check_said) .none kV5 dc5 pm5 an5 cd5 ct5), sl5⟩) (c5 : PySem.W.codeIn K cd5 "check_said" = true) (k5 : PySem.W.keepIn K (.ref f5) = true)
    (a6 : PySem.W.nsIn K mainGlobals "run" = some (some (.ref f6))) (l6 : K.lookup f6 = some ⟨oc6, od6, .func (PySem.W.fnOf "run" "run" (defArgs s_run) (defBody s_run) (defScope s_run) .none kV6 dc6 pm6 an6 cd6 ct6), sl6⟩) (c6 : PySem.W.codeIn K cd6 "run" = true) (k6 : PySem.W.keepIn K (.ref f6) = true)
    (a7 : PySem.W.nsIn K mainGlobals "minimize" = some (some (.ref f7))) (l7 : K.lookup f7 = some ⟨oc7, od7, .func (PySem.W.fnOf "minimize" "minimize" (defArgs s_minimize) (defBody s_minimize) (defScope s_minimize) .none kV7 dc7 pm7 an7 cd7 ct7), sl7⟩) (c7 : PySem.W.codeIn K cd7 "minimize" = true) (k7 : PySem.W.keepIn K (.ref f7) = true)
    (a8 : PySem.W.nsIn K mainGlobals "separating_word" = some (some (.ref f8))) (l8 : K.lookup f8 = some ⟨oc8, od8, .func (PySem.W.fnOf "separating_word" "separating_word" (defArgs s_separating_word) (defBody s_separating_word) (defScope s_separating_word) .none kV8 dc8 pm8 an8 cd8 ct8), sl8⟩) (c8 : PySem.W.codeIn K cd8 "separating_word" = true) (k8 : PySem.W.keepIn K (.ref f8) = true)
    (a9 : PySem.W.nsIn K mainGlobals "_law_draws" = some (some (.ref f9))) (l9 : K.lookup f9 = some ⟨oc9, od9, .func (PySem.W.fnOf "_law_draws" "_law_draws" (defArgs s_law_draws) (defBody s_law_draws) (defScope s_law_draws) .none kV9 dc9 pm9 an9 cd9 ct9), sl9⟩) (c9 : PySem.W.codeIn K cd9 "_law_draws" = true) (k9 : PySem.W.keepIn K (.ref f9) = true)
    (a10 : PySem.W.nsIn K mainGlobals "_law_take" = some (some (.ref f10))) (l10 : K.lookup f10 = some ⟨oc10, od10, .func (PySem.W.fnOf "_law_take" "_law_take" (defArgs s_law_take) (defBody s_law_take) (defScope s_law_take) .none kV10 dc10 pm10 an10 cd10 ct10), sl10⟩) (c10 : PySem.W.codeIn K cd10 "_law_take" = true) (k10 : PySem.W.keepIn K (.ref f10) = true)
    (a11 : PySem.W.nsIn K mainGlobals "_law_is_integer" = some (some (.ref f11))) (l11 : K.lookup f11 = some ⟨oc11, od11, .func (PySem.W.fnOf "_law_is_integer" "_law_is_integer" (defArgs s_law_is_integer) (defBody s_law_is_integer) (defScope s_law_is_integer) .none kV11 dc11 pm11 an11 cd11 ct11), sl11⟩) (c11 : PySem.W.codeIn K cd11 "_law_is_integer" = true) (k11 : PySem.W.keepIn K (.ref f11) = true)
    (a12 : PySem.W.nsIn K mainGlobals "_law_integers" = some (some (.ref f12))) (l12 : K.lookup f12 = some ⟨oc12, od12, .func (PySem.W.fnOf "_law_integers" "_law_integers" (defArgs s_law_integers) (defBody s_law_integers) (defScope s_law_integers) .none kV12 dc12 pm12 an12 cd12 ct12), sl12⟩) (c12 : PySem.W.codeIn K cd12 "_law_integers" = true) (k12 : PySem.W.keepIn K (.ref f12) = true)
    (a13 : PySem.W.nsIn K mainGlobals "_law_flat" = some (some (.ref f13))) (l13 : K.lookup f13 = some ⟨oc13, od13, .func (PySem.W.fnOf "_law_flat" "_law_flat" (defArgs s_law_flat) (defBody s_law_flat) (defScope s_law_flat) .none kV13 dc13 pm13 an13 cd13 ct13), sl13⟩) (c13 : PySem.W.codeIn K cd13 "_law_flat" = true) (k13 : PySem.W.keepIn K (.ref f13) = true)
    (a14 : PySem.W.nsIn K mainGlobals "_law_machine" = some (some (.ref f14))) (l14 : K.lookup f14 = some ⟨oc14, od14, .func (PySem.W.fnOf "_law_machine" "_law_machine" (defArgs s_law_machine) (defBody s_law_machine) (defScope s_law_machine) .none kV14 dc14 pm14 an14 cd14 ct14), sl14⟩) (c14 : PySem.W.codeIn K cd14 "_law_machine" = true) (k14 : PySem.W.keepIn K (.ref f14) = true)
    (a15 : PySem.W.nsIn K mainGlobals "_law_is_machine" = some (some (.ref f15))) (l15 : K.lookup f15 = some ⟨oc15, od15, .func (PySem.W.fnOf "_law_is_machine" "_law_is_machine" (defArgs s_law_is_machine) (defBody s_law_is_machine) (defScope s_law_is_machine) .none kV15 dc15 pm15 an15 cd15 ct15), sl15⟩) (c15 : PySem.W.codeIn K cd15 "_law_is_machine" = true) (k15 : PySem.W.keepIn K (.ref f15) = true)
    (a16 : PySem.W.nsIn K mainGlobals "_law_alike" = some (some (.ref f16))) (l16 : K.lookup f16 = some ⟨oc16, od16, .func (PySem.W.fnOf "_law_alike" "_law_alike" (defArgs s_law_alike) (defBody s_law_alike) (defScope s_law_alike) .none kV16 dc16 pm16 an16 cd16 ct16), sl16⟩) (c16 : PySem.W.codeIn K cd16 "_law_alike" = true) (k16 : PySem.W.keepIn K (.ref f16) = true)
    (a17 : PySem.W.nsIn K mainGlobals "_law_least" = some (some (.ref f17))) (l17 : K.lookup f17 = some ⟨oc17, od17, .func (PySem.W.fnOf "_law_least" "_law_least" (defArgs s_law_least) (defBody s_law_least) (defScope s_law_least) .none kV17 dc17 pm17 an17 cd17 ct17), sl17⟩) (c17 : PySem.W.codeIn K cd17 "_law_least" = true) (k17 : PySem.W.keepIn K (.ref f17) = true)
    (a18 : PySem.W.nsIn K mainGlobals "law" = some (some (.ref f18))) (l18 : K.lookup f18 = some ⟨oc18, od18, .func (PySem.W.fnOf "law" "law" (defArgs s_law) (defBody s_law) (defScope s_law) .none kV18 dc18 pm18 an18 cd18 ct18), sl18⟩) (c18 : PySem.W.codeIn K cd18 "law" = true) (k18 : PySem.W.keepIn K (.ref f18) = true)
    (z0 : PySem.W.nsIn K mainGlobals "bool" = some none) (z1 : PySem.W.nsIn K mainGlobals "enumerate" = some none) (z2 : PySem.W.nsIn K mainGlobals "int" = some none) (z3 : PySem.W.nsIn K mainGlobals "isinstance" = some none) (z4 : PySem.W.nsIn K mainGlobals "len" = some none) (z5 : PySem.W.nsIn K mainGlobals "list" = some none) (z6 : PySem.W.nsIn K mainGlobals "max" = some none) (z7 : PySem.W.nsIn K mainGlobals "range" = some none) (z8 : PySem.W.nsIn K mainGlobals "tuple" = some none) (z9 : PySem.W.nsIn K mainGlobals "zip" = some none) (xa : PySem.W.nsIn K mainGlobals "InvalidMachine" = some (some (.ref cI))) (xb : PySem.W.excIn K cI [.type "ValueError", .type "Exception", .type "BaseException", .type "object"] "ValueError.__new__" = true) (xc : PySem.W.keepIn K (.ref cI) = true) (xd : PySem.W.typeIn K (.ref cI) = some (.type "type")) (xe : PySem.W.subIn K (.ref cI) (.ref cI) = some true) (xf : PySem.W.findIn K (.ref cI) "__getattribute__" = some (some (.builtin "BaseException.__getattribute__"))) (xg : PySem.W.findIn K (.ref cI) "__getattr__" = some none) (xh : PySem.W.subIn K (.ref cI) (.type "BaseException") = some true) (xi : PySem.W.hasDictIn K cI = true) (xj : PySem.W.findIn K (.ref cI) "__class__" = some (some (.builtin "object.__class__"))) (xk : PySem.W.specialIn K (.builtin "object.__class__") "__get__" = some (some (.builtin "getset_descriptor.__get__"))) (xl : PySem.W.takesIn K (.builtin "object.__class__") = some true) (xm : PySem.W.mroIn K cI (.type "object") = some true) (wa : PySem.W.nsIn K mainGlobals "InvalidLetter" = some (some (.ref cL))) (wb : PySem.W.excIn K cL [.type "ValueError", .type "Exception", .type "BaseException", .type "object"] "ValueError.__new__" = true) (wc : PySem.W.keepIn K (.ref cL) = true) (wd : PySem.W.typeIn K (.ref cL) = some (.type "type")) (we : PySem.W.subIn K (.ref cL) (.ref cL) = some true) (wf : PySem.W.findIn K (.ref cL) "__getattribute__" = some (some (.builtin "BaseException.__getattribute__"))) (wg : PySem.W.findIn K (.ref cL) "__getattr__" = some none) (wh : PySem.W.subIn K (.ref cL) (.type "BaseException") = some true) (wi : PySem.W.hasDictIn K cL = true) (wj : PySem.W.findIn K (.ref cL) "__class__" = some (some (.builtin "object.__class__"))) (wk : PySem.W.specialIn K (.builtin "object.__class__") "__get__" = some (some (.builtin "getset_descriptor.__get__"))) (wl : PySem.W.takesIn K (.builtin "object.__class__") = some true) (wm : PySem.W.mroIn K cL (.type "object") = some true) (ya : PySem.W.nsIn K mainGlobals "Machine" = some (some (.ref C))) (yb : PySem.W.plainGet K C Str.empty = true) (yc : PySem.W.hasDictIn K C = true) (yd : PySem.W.plainOver K C = true) (ye : PySem.W.findIn K (.ref C) "__setattr__" = some (some (.builtin "object.__setattr__"))) (yf : PySem.W.findIn K (.ref C) "inputs" = some none) (yg : PySem.W.findIn K (.ref C) "outputs" = some none) (yh : PySem.W.findIn K (.ref C) "lead" = some none) (yi : PySem.W.findIn K (.ref C) "opening" = some none) (yi2 : PySem.W.findIn K (.ref C) "rows" = some none) (yj : PySem.W.makesIn K C = true) (yk : PySem.W.findIn K (.ref C) "__init__" = some (some (.ref fI))) (yl : PySem.W.isFn K (.ref fI) = true) (ym : PySem.W.keepIn K (.ref C) = true) (yn : K.lookup fI = some ⟨ocI, odI, .func (PySem.W.fnOf "__init__" "Machine.__init__" (defArgs s_Machine_init) (defBody s_Machine_init) (defScope s_Machine_init) .none kVI dcI pmI anI cdI ctI), slI⟩) (yo : PySem.W.codeIn K cdI "Machine.__init__" = true) (yp : PySem.W.keepIn K (.ref fI) = true) (yq : PySem.W.findIn K (.ref C) "__call__" = some (some (.ref fC))) (yr : PySem.W.isFn K (.ref fC) = true) (ys : PySem.W.fnIn K fC = true) (yt : K.lookup fC = some ⟨ocJ, odJ, .func (PySem.W.fnOf "__call__" "Machine.__call__" (defArgs s_Machine_call) (defBody s_Machine_call) (defScope s_Machine_call) .none kVJ dcJ pmJ anJ cdJ ctJ), slJ⟩) (yu : PySem.W.codeIn K cdJ "Machine.__call__" = true) (yv : PySem.W.keepIn K (.ref fC) = true) (ga : PySem.W.nsIn K mainGlobals "LEAST_LEAD" = some (some (.int (-3) tk1))) (gb : PySem.W.nsIn K mainGlobals "GREATEST_LEAD" = some (some (.int 2 tk2))) (va : PySem.W.nsIn K mainGlobals "Mismatch" = some (some (.ref cX))) (vb : PySem.W.excIn K cX [.type "ValueError", .type "Exception", .type "BaseException", .type "object"] "ValueError.__new__" = true) (vc : PySem.W.keepIn K (.ref cX) = true) (vd : PySem.W.typeIn K (.ref cX) = some (.type "type")) (ve : PySem.W.subIn K (.ref cX) (.ref cX) = some true) (vf : PySem.W.findIn K (.ref cX) "__getattribute__" = some (some (.builtin "BaseException.__getattribute__"))) (vg : PySem.W.findIn K (.ref cX) "__getattr__" = some none) (vh : PySem.W.subIn K (.ref cX) (.type "BaseException") = some true) (vi : PySem.W.hasDictIn K cX = true) (vj : PySem.W.findIn K (.ref cX) "__class__" = some (some (.builtin "object.__class__"))) (vk : PySem.W.specialIn K (.builtin "object.__class__") "__get__" = some (some (.builtin "getset_descriptor.__get__"))) (vl : PySem.W.takesIn K (.builtin "object.__class__") = some true) (vm : PySem.W.mroIn K cX (.type "object") = some true)  (tc0 : Clo.codeTab K cA0 = some PA0) (th0 : PySem.W.codeHdIn K cA0 PA0 = true) (tn0 : K.lookup PA0 = none) (te0 : h.get? PA0 = some { cls := .none, data := .fields #[] }) :
    LamX.LawAtS l w K CX0 8 63 "script" mg fa h := by
  have e := hfa.symm.trans (PySem.W.mg_of X G a18)
  cases e
  have T : Txt K mg cA0 PA0 := ⟨⟨f0, _, fun_mk (st := s_explore) l0 c0 k0, PySem.W.mg_of X G a0, (fun_mk (st := s_explore) l0 c0 k0).binds fun _ _ _ _ _ _ us hl => match us, hl with | [_, _], _ => rfl⟩, ⟨f1, _, Clo.func_mk (st := s_without_alike) l1 c1 k1, PySem.W.mg_of X G a1, (fun_mk (st := s_without_alike) l1 c1 k1).binds fun _ _ _ _ _ _ us hl => match us, hl with | [_, _, _], _ => rfl⟩, ⟨f2, _, fun_mk (st := s_alike_classes) l2 c2 k2, PySem.W.mg_of X G a2, (fun_mk (st := s_alike_classes) l2 c2 k2).binds fun _ _ _ _ _ _ us hl => match us, hl with | [_, _], _ => rfl⟩, ⟨f3, _, fun_mk (st := s_numbered) l3 c3 k3, PySem.W.mg_of X G a3, (fun_mk (st := s_numbered) l3 c3 k3).binds fun _ _ _ _ _ _ us hl => match us, hl with | [_], _ => rfl⟩, ⟨f4, _, fun_mk (st := s_check_rows) l4 c4 k4, PySem.W.mg_of X G a4, (fun_mk (st := s_check_rows) l4 c4 k4).binds fun _ _ _ _ _ _ us hl => match us, hl with | [_, _], _ => rfl⟩, ⟨f5, _, fun_mk (st := s_check_said) l5 c5 k5, PySem.W.mg_of X G a5, (fun_mk (st := s_check_said) l5 c5 k5).binds fun _ _ _ _ _ _ us hl => match us, hl with | [_, _], _ => rfl⟩, ⟨f6, _, fun_mk (st := s_run) l6 c6 k6, PySem.W.mg_of X G a6, (fun_mk (st := s_run) l6 c6 k6).binds fun _ _ _ _ _ _ us hl => match us, hl with | [_, _, _], _ => rfl⟩, ⟨f7, _, fun_mk (st := s_minimize) l7 c7 k7, PySem.W.mg_of X G a7, (fun_mk (st := s_minimize) l7 c7 k7).binds fun _ _ _ _ _ _ us hl => match us, hl with | [_], _ => rfl⟩, ⟨f8, _, fun_mk (st := s_separating_word) l8 c8 k8, PySem.W.mg_of X G a8, (fun_mk (st := s_separating_word) l8 c8 k8).binds fun _ _ _ _ _ _ us hl => match us, hl with | [_, _], _ => rfl⟩, ⟨f9, _, fun_mk (st := s_law_draws) l9 c9 k9, PySem.W.mg_of X G a9, (fun_mk (st := s_law_draws) l9 c9 k9).binds fun _ _ _ _ _ _ us hl => match us, hl with | [_, _], _ => rfl⟩, ⟨f10, _, fun_mk (st := s_law_take) l10 c10 k10, PySem.W.mg_of X G a10, (fun_mk (st := s_law_take) l10 c10 k10).binds fun _ _ _ _ _ _ us hl => match us, hl with | [_, _], _ => rfl⟩, ⟨f11, _, fun_mk (st := s_law_is_integer) l11 c11 k11, PySem.W.mg_of X G a11, (fun_mk (st := s_law_is_integer) l11 c11 k11).binds fun _ _ _ _ _ _ us hl => match us, hl with | [_], _ => rfl⟩, ⟨f12, _, fun_mk (st := s_law_integers) l12 c12 k12, PySem.W.mg_of X G a12, (fun_mk (st := s_law_integers) l12 c12 k12).binds fun _ _ _ _ _ _ us hl => match us, hl with | [_, _, _], _ => rfl⟩, ⟨f13, _, fun_mk (st := s_law_flat) l13 c13 k13, PySem.W.mg_of X G a13, (fun_mk (st := s_law_flat) l13 c13 k13).binds fun _ _ _ _ _ _ us hl => match us, hl with | [_], _ => rfl⟩, ⟨f14, _, fun_mk (st := s_law_machine) l14 c14 k14, PySem.W.mg_of X G a14, (fun_mk (st := s_law_machine) l14 c14 k14).binds fun _ _ _ _ _ _ us hl => match us, hl with | [_, _, _, _, _], _ => rfl⟩, ⟨f15, _, fun_mk (st := s_law_is_machine) l15 c15 k15, PySem.W.mg_of X G a15, (fun_mk (st := s_law_is_machine) l15 c15 k15).binds fun _ _ _ _ _ _ us hl => match us, hl with | [_, _, _, _], _ => rfl⟩, ⟨f16, _, fun_mk (st := s_law_alike) l16 c16 k16, PySem.W.mg_of X G a16, (fun_mk (st := s_law_alike) l16 c16 k16).binds fun _ _ _ _ _ _ us hl => match us, hl with | [_], _ => rfl⟩, ⟨f17, _, fun_mk (st := s_law_least) l17 c17 k17, PySem.W.mg_of X G a17, (fun_mk (st := s_law_least) l17 c17 k17).binds fun _ _ _ _ _ _ us hl => match us, hl with | [_], _ => rfl⟩, PySem.W.mg_none_of X G z0, PySem.W.mg_none_of X G z1, PySem.W.mg_none_of X G z2, PySem.W.mg_none_of X G z3, PySem.W.mg_none_of X G z4, PySem.W.mg_none_of X G z5, PySem.W.mg_none_of X G z6, PySem.W.mg_none_of X G z7, PySem.W.mg_none_of X G z8, PySem.W.mg_none_of X G z9, ⟨cX, cI, cL, C, fI, fC, _, _, tk1, tk2, ⟨PySem.W.mg_of X G xa, xb, xc, xd, xe, ⟨xf, xg, xh, xi, xj, xk, xl, xm⟩⟩, ⟨PySem.W.mg_of X G wa, wb, wc, wd, we, ⟨wf, wg, wh, wi, wj, wk, wl, wm⟩⟩, ⟨⟨yb, yc, yd, ye⟩, yf, yg, yh, yi, yi2⟩, ⟨yj, yk, yl, ym⟩, PySem.W.mg_of X G ya, fun_mk (st := s_Machine_init) yn yo yp, (fun_mk (st := s_Machine_init) yn yo yp).binds fun _ _ _ _ _ _ us hl => match us, hl with | [_, _, _, _, _, _], _ => rfl, ⟨yq, yr, ys⟩, fun_mk (st := s_Machine_call) yt yu yv, (fun_mk (st := s_Machine_call) yt yu yv).binds fun _ _ _ _ _ _ us hl => match us, hl with | [_, _], _ => rfl, PySem.W.mg_of X G ga, PySem.W.mg_of X G gb, ⟨PySem.W.mg_of X G va, vb, vc, vd, ve, ⟨vf, vg, vh, vi, vj, vk, vl, vm⟩⟩⟩⟩
  have cd_ : ∀ p ∈ [(cA0, PA0)], PySem.W.CodeHd h p.1 p.2 := fun p hp => PySem.W.codeHd_of_K X (by obtain rfl := List.mem_singleton.mp hp; exact th0)
  exact ⟨_, [(cA0, PA0)], spLaw K PA0, (by intro p hp; obtain rfl := List.mem_singleton.mp hp; exact te0), (by intro p hp; obtain rfl := List.mem_singleton.mp hp; exact tn0), cd_, fun s v => .of_eq rfl, fun H a ns hl _ ht hS => ⟨a, ns, rfl, hS, hl, ht (cA0, PA0) (by simp), fun _ => rfl⟩, fun base _ _ ht => ok_law (fun_mk (st := s_law) l18 c18 k18) T (ht (cA0, PA0) (by simp))⟩
end My
open PySem PySem.W PyProof.Rows
set_option maxHeartbeats 0 in
theorem PySem.Challenge.cw_reactivesynth_k41_minimize_holds : PySem.Challenge.rw_reactivesynth_k41_minimize.Holds := by
  w_on; o_law; k_head; (case hw => w_witness2)
  k_fill
  refine LamX.walk_ofTs (l := PySem.Challenge.rw_reactivesynth_k41_minimize) (n := 63) (k := 8) (x := "script") (CX := fun _ => L2.CX0) rfl (by decide) rfl ⟨rfl, by decide, by decide⟩ (fun w h Y => PySem.W.km_in_of Y) ?F (fun _ _ _ _ _ h => h)
  case F =>
    intro w mg fa h Y KX G hmg
    refine' My.all_mk KX G hmg ?a0 ?l0 ?c0 ?k0 ?a1 ?l1 ?c1 ?k1 ?a2 ?l2 ?c2 ?k2 ?a3 ?l3 ?c3 ?k3 ?a4 ?l4 ?c4 ?k4 ?a5 ?l5 ?c5 ?k5 ?a6 ?l6 ?c6 ?k6 ?a7 ?l7 ?c7 ?k7 ?a8 ?l8 ?c8 ?k8 ?a9 ?l9 ?c9 ?k9 ?a10 ?l10 ?c10 ?k10 ?a11 ?l11 ?c11 ?k11 ?a12 ?l12 ?c12 ?k12 ?a13 ?l13 ?c13 ?k13 ?a14 ?l14 ?c14 ?k14 ?a15 ?l15 ?c15 ?k15 ?a16 ?l16 ?c16 ?k16 ?a17 ?l17 ?c17 ?k17 ?a18 ?l18 ?c18 ?k18 ?z0 ?z1 ?z2 ?z3 ?z4 ?z5 ?z6 ?z7 ?z8 ?z9 ?xa ?xb ?xc ?xd ?xe ?xf ?xg ?xh ?xi ?xj ?xk ?xl ?xm ?wa ?wb ?wc ?wd ?we ?wf ?wg ?wh ?wi ?wj ?wk ?wl ?wm ?ya ?yb ?yc ?yd ?ye ?yf ?yg ?yh ?yi ?yi2 ?yj ?yk ?yl ?ym ?yn ?yo ?yp ?yq ?yr ?ys ?yt ?yu ?yv ?ga ?gb ?va ?vb ?vc ?vd ?ve ?vf ?vg ?vh ?vi ?vj ?vk ?vl ?vm ?tc0 ?th0 ?tn0 ?te0
    (case a0 => k_is); (case l0 => k_is); (case c0 => k_is); (case k0 => k_is); (case a1 => k_is); (case l1 => k_is); (case c1 => k_is); (case k1 => k_is); (case a2 => k_is); (case l2 => k_is); (case c2 => k_is); (case k2 => k_is); (case a3 => k_is); (case l3 => k_is); (case c3 => k_is); (case k3 => k_is); (case a4 => k_is); (case l4 => k_is); (case c4 => k_is); (case k4 => k_is); (case a5 => k_is); (case l5 => k_is); (case c5 => k_is); (case k5 => k_is); (case a6 => k_is); (case l6 => k_is); (case c6 => k_is); (case k6 => k_is); (case a7 => k_is); (case l7 => k_is); (case c7 => k_is); (case k7 => k_is); (case a8 => k_is); (case l8 => k_is); (case c8 => k_is); (case k8 => k_is); (case a9 => k_is); (case l9 => k_is); (case c9 => k_is); (case k9 => k_is); (case a10 => k_is); (case l10 => k_is); (case c10 => k_is); (case k10 => k_is); (case a11 => k_is); (case l11 => k_is); (case c11 => k_is); (case k11 => k_is); (case a12 => k_is); (case l12 => k_is); (case c12 => k_is); (case k12 => k_is); (case a13 => k_is); (case l13 => k_is); (case c13 => k_is); (case k13 => k_is); (case a14 => k_is); (case l14 => k_is); (case c14 => k_is); (case k14 => k_is); (case a15 => k_is); (case l15 => k_is); (case c15 => k_is); (case k15 => k_is); (case a16 => k_is); (case l16 => k_is); (case c16 => k_is); (case k16 => k_is); (case a17 => k_is); (case l17 => k_is); (case c17 => k_is); (case k17 => k_is); (case a18 => k_is); (case l18 => k_is); (case c18 => k_is); (case k18 => k_is); (case z0 => k_is); (case z1 => k_is); (case z2 => k_is); (case z3 => k_is); (case z4 => k_is); (case z5 => k_is); (case z6 => k_is); (case z7 => k_is); (case z8 => k_is); (case z9 => k_is); (case xa => first | rfl | k_is); (case xb => first | k_exc | rfl | k_is); (case xc => first | rfl | k_is); (case xd => first | rfl | k_is); (case xe => first | rfl | k_is); (case xf => first | rfl | k_is); (case xg => first | rfl | k_is); (case xh => first | rfl | k_is); (case xi => first | rfl | k_is); (case xj => first | rfl | k_is); (case xk => first | rfl | k_is); (case xl => first | rfl | k_is); (case xm => first | rfl | k_is); (case wa => k_is); (case wb => first | k_exc | rfl | k_is); (case wc => k_is); (case wd => k_is); (case we => k_is); (case wf => k_is); (case wg => k_is); (case wh => k_is); (case wi => k_is); (case wj => k_is); (case wk => k_is); (case wl => k_is); (case wm => k_is); (case ya => k_is); (case yb => k_is); (case yc => k_is); (case yd => k_is); (case ye => k_is); (case yf => k_is); (case yg => k_is); (case yh => k_is); (case yi => k_is); (case yi2 => k_is); (case yj => k_is); (case yk => k_is); (case yl => k_is); (case ym => k_is); (case yn => k_is); (case yo => k_is); (case yp => k_is); (case yq => k_is); (case yr => k_is); (case ys => k_is); (case yt => k_is); (case yu => k_is); (case yv => k_is); (case ga => k_is); (case gb => k_is); (case va => k_is); (case vb => first | k_exc | rfl | k_is); (case vc => k_is); (case vd => k_is); (case ve => k_is); (case vf => k_is); (case vg => k_is); (case vh => k_is); (case vi => k_is); (case vj => k_is); (case vk => k_is); (case vl => k_is); (case vm => k_is); (case tc0 => first | rfl | k_is); (case th0 => first | rfl | k_is); (case tn0 => first | rfl | k_is); (case te0 => exact PySem.W.km_tabs_of Y _ (by decide))
