import PyProof.Rows.All
import Wide.All
import OpenK.AllK
import Wide.FinOn
import HandS.ForMost
import HandS.ForExc
import HandS.ExcIs
import HandS.ExcOwn
import HandS.WordsExc
import HandS.TryMany
import HandS.TryOnly
import HandS.Codes
import HandS.IsInst
import HandS.TupAny
import HandS.TupMul
import HandS.SortKw
import KE.KMinKey
import PyProof.WalksMore
import HandS.Dict
import HandS.Style
import HandS.Conv
import HandS.Walk
import HandS.Zip
import PyProof.AutoSeq1
import HandS.Text
import HandS.SetFor
import HandS.Strs
import HandS.Star
import HandS.MakeKwOnly
import HandS.Property
import HandS.Steps
import HandS.Defaults
import HandS.WideBits
import HandS.StrMore
import HandS.Replace
import HandS.Deep
import HandS.DictComp
import KE.GoesMore
import HandS.Iter
import HandS.Nested
import HandS.NestedK
import HandS.EndTab
import HandS.AnyAll
import KE.KDictKeyed
import KE.KeyNested
import HandS.Lambda
import HandS.TupLen
import HandS.SetKeys
import KE.GoesEnum
import KE.KDictZip
import KE.KItemsList
import HandS.ListItems
import KE.KMathG
import PySem.Challenge.RW_reactivesynth_k40_play
set_option Elab.async false
set_option linter.all false
set_option maxRecDepth 100000
set_option maxHeartbeats 4000000
namespace Wd
/-- m is the length of a proper border of the first k letters -/
def Bd (w : Nat → Int) (k m : Nat) : Prop := m < k ∧ ∀ i, i < m → w i = w (k - m + i)
/-- .. the greatest -/
def Lg (w : Nat → Int) (k m : Nat) : Prop := Bd w k m ∧ ∀ j, Bd w k j → j ≤ m
theorem Bd.zero {w : Nat → Int} {k : Nat} (h : 0 < k) : Bd w k 0 := ⟨h, fun i hi => absurd hi (Nat.not_lt_zero i)⟩
theorem Bd.down {w : Nat → Int} {k m : Nat} (h : Bd w (k + 1) (m + 1)) : Bd w k m ∧ w m = w k := by
  obtain ⟨h1, h2⟩ := h
  refine ⟨⟨by omega, fun i hi => ?_⟩, ?_⟩
  · have := h2 i (by omega)
    rw [this]
    congr 1
    omega
  · have := h2 m (by omega)
    rw [this]
    congr 1
    omega
theorem Bd.up {w : Nat → Int} {k m : Nat} (h : Bd w k m) (e : w m = w k) : Bd w (k + 1) (m + 1) := by
  obtain ⟨h1, h2⟩ := h
  refine ⟨by omega, fun i hi => ?_⟩
  rcases Nat.lt_or_ge i m with c | c
  · rw [h2 i c]
    congr 1
    omega
  · have : i = m := by omega
    subst this
    rw [e]
    congr 1
    omega
theorem Bd.inner {w : Nat → Int} {k b j : Nat} (h : Bd w k b) (g : Bd w k j) (l : j < b) : Bd w b j := by
  obtain ⟨h1, h2⟩ := h
  obtain ⟨g1, g2⟩ := g
  refine ⟨l, fun i hi => ?_⟩
  rw [g2 i hi, h2 (b - j + i) (by omega)]
  congr 1
  omega
theorem Bd.trans {w : Nat → Int} {k b j : Nat} (h : Bd w k b) (g : Bd w b j) : Bd w k j := by
  obtain ⟨h1, h2⟩ := h
  obtain ⟨g1, g2⟩ := g
  refine ⟨by omega, fun i hi => ?_⟩
  rw [g2 i hi, h2 (b - j + i) (by omega)]
  congr 1
  omega
/-- what the inner loop keeps: b is a border of the first k letters, and no border of the first k + 1 is longer than b + 1 -/
def In (w : Nat → Int) (k b : Nat) : Prop := Bd w k b ∧ ∀ j, Bd w (k + 1) (j + 1) → j ≤ b
theorem In.start {w : Nat → Int} {k b : Nat} (h : Lg w k b) : In w k b := ⟨h.1, fun j hj => h.2 j hj.down.1⟩
theorem In.step {w : Nat → Int} {k b c : Nat} (h : In w k b) (hb : 0 < b) (ne : w k ≠ w b) (g : Lg w b c) : In w k c ∧ c < b := by
  refine ⟨⟨h.1.trans g.1, fun j hj => ?_⟩, g.1.1⟩
  have h1 := h.2 j hj
  obtain ⟨h2, h3⟩ := hj.down
  have : j ≠ b := fun z => ne (by rw [← h3, z])
  exact g.2 j (h.1.inner h2 (by omega))
theorem In.found {w : Nat → Int} {k b : Nat} (h : In w k b) (e : w k = w b) : Lg w (k + 1) (b + 1) := by
  refine ⟨h.1.up e.symm, fun j hj => ?_⟩
  cases j with
  | zero => omega
  | succ j => exact Nat.succ_le_succ (h.2 j hj)
theorem In.none {w : Nat → Int} {k : Nat} (h : In w k 0) (ne : w k ≠ w 0) : Lg w (k + 1) 0 := by
  refine ⟨Bd.zero (by omega), fun j hj => ?_⟩
  cases j with
  | zero => omega
  | succ j =>
    have h1 := h.2 j hj
    have : j = 0 := by omega
    subst this
    exact absurd hj.down.2.symm ne
/-! periods -/
/-- the letters of the word without end that repeats the first n letters -/
def cyc (w : Nat → Int) (n i : Nat) : Int := w (i % n)
def Rp (w : Nat → Int) (n p : Nat) : Prop := ∀ i, cyc w n (i + p) = cyc w n i
theorem Rp.mul {w : Nat → Int} {n p : Nat} (h : Rp w n p) : ∀ k i, cyc w n (i + k * p) = cyc w n i
  | 0, i => by rw [Nat.zero_mul, Nat.add_zero]
  | k + 1, i => by
    rw [Nat.succ_mul, ← Nat.add_assoc, h, h.mul k i]
theorem Rp.mod {w : Nat → Int} {n p i : Nat} (h : Rp w n p) : cyc w n i = cyc w n (i % p) := by
  have := h.mul (i / p) (i % p)
  rw [Nat.mul_comm, Nat.mod_add_div] at this
  exact this
theorem cyc_lt {w : Nat → Int} {n i : Nat} (h : i < n) : cyc w n i = w i := by
  unfold cyc
  rw [Nat.mod_eq_of_lt h]
theorem rp_self (w : Nat → Int) (n : Nat) : Rp w n n := fun i => by
  unfold cyc
  rw [Nat.add_mod_right]
/-- a period of the finite word that divides its length is one of the word without end -/
theorem rp_of {w : Nat → Int} {n p : Nat} (hp : 0 < p) (hd : p ∣ n) (hn : 0 < n) (h : ∀ i, i + p < n → w i = w (i + p)) : Rp w n p := by
  have red : ∀ k i, i + k * p < n → w (i + k * p) = w i := by
    intro k
    induction k with
    | zero => intro i _; rw [Nat.zero_mul, Nat.add_zero]
    | succ k ih =>
      intro i hi
      rw [Nat.succ_mul] at hi ⊢
      rw [← Nat.add_assoc, ← h (i + k * p) (by omega)]
      exact ih i (by omega)
  have toMod : ∀ i, cyc w n i = w (i % p) := by
    intro i
    unfold cyc
    have h1 : i % n < n := Nat.mod_lt _ hn
    have e : i % n % p + (i % n / p) * p = i % n := by
      rw [Nat.mul_comm]
      exact Nat.mod_add_div _ _
    have h2 := red (i % n / p) (i % n % p) (by rw [e]; exact h1)
    rw [e] at h2
    rw [h2, Nat.mod_mod_of_dvd _ hd]
  intro i
  rw [toMod, toMod, Nat.add_mod_right]
/-- the least repetition: r divides n, the word repeats its first r letters, and no shorter one does -/
structure Least (w : Nat → Int) (n r : Nat) : Prop where
  pos : 0 < r
  dvd : r ∣ n
  rp : Rp w n r
  min : ∀ p, 0 < p → p ∣ n → Rp w n p → r ≤ p
theorem least_of {w : Nat → Int} {n b : Nat} (hn : 0 < n) (h : Lg w n b) : Least w n (if n % (n - b) = 0 then n - b else n) := by
  obtain ⟨⟨hb, h1⟩, h2⟩ := h
  have hs : 0 < n - b := by omega
  -- n - b is the least period of the finite word
  have per : ∀ i, i + (n - b) < n → w i = w (i + (n - b)) := fun i hi => by
    have := h1 i (by omega)
    rw [this]
    congr 1
    omega
  have low : ∀ p, 0 < p → p ≤ n → (∀ i, i + p < n → w i = w (i + p)) → n - b ≤ p := fun p hp hpn hq => by
    have := h2 (n - p) ⟨by omega, fun i hi => by
      have := hq i (by omega)
      rw [this]
      congr 1
      omega⟩
    omega
  have fin : ∀ p, Rp w n p → ∀ i, i + p < n → w i = w (i + p) := fun p hp i hi => by
    have := hp i
    rw [cyc_lt hi, cyc_lt (by omega)] at this
    exact this.symm
  -- a shorter repetition makes n - b a repetition
  have key : ∀ p, 0 < p → p ∣ n → p < n → Rp w n p → n % (n - b) = 0 ∧ n - b ≤ p := by
    intro p hp hd hlt hr
    have le := low p hp (by omega) (fin p hr)
    obtain ⟨q, hq⟩ := hd
    have hq2 : 2 ≤ q := by
      rcases Nat.lt_or_ge q 2 with c | c
      · have : q = 0 ∨ q = 1 := by omega
        rcases this with z | z
        · rw [z] at hq; omega
        · rw [z] at hq; omega
      · exact c
    have h2p : 2 * p ≤ n := by
      rw [hq, Nat.mul_comm 2 p]
      exact Nat.mul_le_mul_left p hq2
    have rs : Rp w n (n - b) := by
      intro i
      have e1 : cyc w n (i + (n - b)) = cyc w n (i % p + (n - b)) := by
        have := hr.mul (i / p) (i % p + (n - b))
        rw [← this]
        congr 1
        have := Nat.mod_add_div i p
        rw [Nat.mul_comm (i / p) p]
        omega
      have hm : i % p < p := Nat.mod_lt _ hp
      rw [e1, hr.mod (i := i), cyc_lt (show i % p + (n - b) < n by omega), cyc_lt (show i % p < n by omega)]
      exact (per _ (by omega)).symm
    -- p is a multiple of n - b
    have hmod : p % (n - b) = 0 := by
      rcases Nat.eq_zero_or_pos (p % (n - b)) with z | z
      · exact z
      · have lt : p % (n - b) < n - b := Nat.mod_lt _ hs
        have rm : Rp w n (p % (n - b)) := by
          intro i
          have a := rs.mul (p / (n - b)) (i + p % (n - b))
          have e : i + p % (n - b) + p / (n - b) * (n - b) = i + p := by
            rw [Nat.mul_comm, Nat.add_assoc, Nat.mod_add_div]
          rw [e] at a
          rw [← a]
          exact hr i
        have := low _ z (by omega) (fin _ rm)
        omega
    refine ⟨?_, le⟩
    exact Nat.mod_eq_zero_of_dvd (Nat.dvd_trans (Nat.dvd_of_mod_eq_zero hmod) ⟨q, hq⟩)
  by_cases c : n % (n - b) = 0
  · rw [if_pos c]
    refine ⟨hs, Nat.dvd_of_mod_eq_zero c, rp_of hs (Nat.dvd_of_mod_eq_zero c) hn per, fun p hp hd hr => ?_⟩
    exact low p hp (Nat.le_of_dvd hn hd) (fin p hr)
  · rw [if_neg c]
    refine ⟨hn, Nat.dvd_refl n, rp_self w n, fun p hp hd hr => ?_⟩
    have le := Nat.le_of_dvd hn hd
    rcases Nat.lt_or_ge p n with l | l
    · exact absurd (key p hp hd l hr).1 c
    · exact l
end Wd
/-! ### min(xs, default=d) of a list of ints: own rule -/
namespace MinD
open PySem PySem.W PyProof.Rows
def kwD (d : Value) : List (Str × Value) := [(Str.ofString "default", d)]
theorem nameL : (toString "min" ++ toString ".loop" : String) = "min.loop" := by decide
section
variable {prog : Program} {w : World} {A : Around} {R : Result → Shared → Prop} {I S : Addr} {fp wr : List Addr} {n : Nat} {P : Nat → Value → Prop} {St : Nat → Heap → Prop} {d : Value}
theorem loopD (W : Walks prog w A.in1 I fp wr n P St) (bt : Nat → Nat → Bool) (cm : CmpOf prog w A.in1 .Lt P bt) (nf : S ∉ fp) :
    ∀ (m j : Nat) (u : Shared) (best : Value) (c : Nat), n - (j + 1) = m → j + 1 ≤ n → St (j + 1) u.heap → P (argBest bt j) best →
    u.heap.get? S = some { cls := .type "list", dict := none, data := .seq #[best, best] c, slots := #[] } →
    (∀ v g tk, P (argBest bt (n - 1)) v → (∀ b o, b ∉ wr → b ≠ S → u.heap.get? b = some o → g.get? b = some o) → R (.ok (.ret v)) { u with heap := g, toks := tk }) →
    codeAny (model prog w) A (.builtin "min.loop" ⟨[.ref I, .none, .ref S], kwD d⟩) R u := by
  have nw : S ∉ wr := fun q => nf (W.sub _ q)
  intro m
  induction m with
  | zero =>
    intro j u best c em hj st pb gS out
    have ej : j + 1 = n := by omega
    refine codeAny_builtin PySem.F.entry_min_loop ?_
    rw [Around.under_plainId PySem.F.plain_min_loop _]
    show wpAny _ A.in1 (seqItems? (.ref S) >>= _) _ _ u
    refine wpAny_bind (wpAny_seqItems gS rfl ?_)
    show wpAny _ A.in1 (tryCatch (pyNext (.ref I)) _ >>= _) _ _ u
    refine wpAny_bind (wpAny_tryCatch (W.done u _ _ (ej ▸ st) fun g tk keep => ?_))
    have gS2 := keep S _ nw gS
    show wpAny _ A.in1 (updateSeq S (fun _ => #[]) >>= _) _ _ _
    refine wpAny_bind (wpAny_updateSeq gS2 rfl (wpAny_bind (wpAny_letGo (wpAny_pure ?_))))
    exact out best _ tk (by rw [← ej]; exact pb) fun b o hb hS e => (Heap.get?_update_other _ _ (Ne.symm hS)).trans (keep b o hb e)
  | succ m ih =>
    intro j u best c em hj st pb gS out
    have lt : j + 1 < n := by omega
    refine codeAny_builtin PySem.F.entry_min_loop ?_
    rw [Around.under_plainId PySem.F.plain_min_loop _]
    show wpAny _ A.in1 (seqItems? (.ref S) >>= _) _ _ u
    refine wpAny_bind (wpAny_seqItems gS rfl ?_)
    show wpAny _ A.in1 (tryCatch (pyNext (.ref I)) _ >>= _) _ _ u
    refine wpAny_bind (wpAny_tryCatch (W.item (j + 1) u _ _ lt st fun v g tk pv st2 keep => ?_))
    have gS2 := keep S _ nw gS
    show wpAny _ A.in1 (tryCatch (holding [v, v] (richCompare .Lt v best >>= _)) _ >>= _) _ _ _
    refine wpAny_bind (wpAny_tryCatch (wpAny_holding (wpAny_bind (cm (j + 1) (argBest bt j) v best _ _ _ pv pb ?_))))
    refine wpAny_bind (wpAny_holding (wpAny_truthy_bool (wpAny_bind (wpAny_letGo (wpAny_pure ?_)))))
    cases hb : bt (j + 1) (argBest bt j) with
    | true =>
      simp only [if_true]
      refine wpAny_bind (wpAny_updateSeq gS2 rfl (wpAny_bind (wpAny_letGo ?_)))
      rw [nameL]
      refine wpAny_pure ⟨plainId_quiet PySem.F.plain_min_loop _, ih (j + 1) _ v _ (by omega) lt (W.frame _ _ _ st2 fun b bf o e => ?_) (by simp only [argBest, hb, if_true]; exact pv) (Heap.get?_update_self _ gS2 rfl)
        fun v2 g2 tk2 p2 keep2 => ?_⟩
      · exact (Heap.get?_update_other _ _ (fun q : S = b => nf (by rw [q]; exact bf))).trans e
      · exact out v2 g2 tk2 p2 fun b o hw hS e => keep2 b o hw hS ((Heap.get?_update_other _ _ (Ne.symm hS)).trans (keep b o hw e))
    | false =>
      simp only [Bool.false_eq_true, if_false]
      refine wpAny_bind (wpAny_letGo ?_)
      rw [nameL]
      exact wpAny_pure ⟨plainId_quiet PySem.F.plain_min_loop _, ih (j + 1) _ best c (by omega) lt st2 (by simp only [argBest, hb, Bool.false_eq_true, if_false]; exact pb) gS2 fun v2 g2 tk2 p2 keep2 =>
        out v2 g2 tk2 p2 fun b o hw hS e => keep2 b o hw hS (keep b o hw e)⟩
theorem firstD (W : Walks prog w A.in1 I fp wr n P St) (bt : Nat → Nat → Bool) (cm : CmpOf prog w A.in1 .Lt P bt) (nf : S ∉ fp) {u : Shared} {c : Nat} (st : St 0 u.heap)
    (gS : u.heap.get? S = some { cls := .type "list", dict := none, data := .seq #[] c, slots := #[] })
    (out : ∀ v g tk, (0 < n → P (argBest bt (n - 1)) v) → (n = 0 → v = d) → (∀ b o, b ∉ wr → b ≠ S → u.heap.get? b = some o → g.get? b = some o) → R (.ok (.ret v)) { u with heap := g, toks := tk }) :
    codeAny (model prog w) A (.builtin "min.loop" ⟨[.ref I, .none, .ref S], kwD d⟩) R u := by
  have nw : S ∉ wr := fun q => nf (W.sub _ q)
  refine codeAny_builtin PySem.F.entry_min_loop ?_
  rw [Around.under_plainId PySem.F.plain_min_loop _]
  show wpAny _ A.in1 (seqItems? (.ref S) >>= _) _ _ u
  refine wpAny_bind (wpAny_seqItems gS rfl ?_)
  show wpAny _ A.in1 (tryCatch (pyNext (.ref I)) _ >>= _) _ _ u
  by_cases h0 : 0 < n
  · refine wpAny_bind (wpAny_tryCatch (W.item 0 u _ _ h0 st fun v g tk pv st2 keep => ?_))
    have gS2 := keep S _ nw gS
    show wpAny _ A.in1 (updateSeq S (fun _ => #[v, v]) >>= _) _ _ _
    refine wpAny_bind (wpAny_updateSeq gS2 rfl ?_)
    rw [nameL]
    refine wpAny_pure ⟨plainId_quiet PySem.F.plain_min_loop _, loopD W bt cm nf _ 0 _ v _ rfl h0 (W.frame _ _ _ st2 fun b bf o e => ?_) pv (Heap.get?_update_self _ gS2 rfl) fun v2 g2 tk2 p2 keep2 => ?_⟩
    · exact (Heap.get?_update_other _ _ (fun q : S = b => nf (by rw [q]; exact bf))).trans e
    · exact out v2 g2 tk2 (fun _ => p2) (fun z => by omega) fun b o hw hS e => keep2 b o hw hS ((Heap.get?_update_other _ _ (Ne.symm hS)).trans (keep b o hw e))
  · have e0 : n = 0 := by omega
    refine wpAny_bind (wpAny_tryCatch (W.done u _ _ (by rw [e0]; exact st) fun g tk keep => ?_))
    show wpAny _ A.in1 (rule _ >>= _) _ _ _
    refine wpAny_bind (wpAny_rule (wpAny_pure ?_))
    exact out d g tk (fun z => absurd z h0) (fun _ => rfl) fun b o hw _ e => keep b o hw e
end
section
variable {prog : Program} {w : World} {A : Around} {E : Value → Shared → Prop} {s : Shared} {d : Value}
theorem args_d (a v : Value) : argsOk "min" ⟨[a], kwD v⟩ := by
  unfold argsOk
  kernel_rfl
theorem callD {l : Addr} {xs : Array (Int × Tok)} {Q : Value → Shared → Prop} (hh : A.handled = none) (hl : s.heap.IsList l (intItems xs))
    (h : ∀ v g tk, (0 < xs.size → (intItems xs)[argBest (fun i j => decide (numAt xs i < numAt xs j)) (xs.size - 1)]? = some v) → (xs.size = 0 → v = d) → (∀ b o, s.heap.get? b = some o → g.get? b = some o) → Q v { s with heap := g, toks := tk }) :
    wpAny (model prog w) A (call (.builtin "min") [.ref l] (kwD d)) Q E s := by
  refine kmk_tree PySem.F.kind_min PySem.F.plain_min PySem.F.entry_min (args_d _ _) ?_
  show wpAny _ A.in1 (Builtin.Builtins.bindParams "min" ["key", "default"] 0 ⟨[], kwD d⟩ >>= _) _ _ s
  refine wpAny_bind (wpAny_of_eq (show Builtin.Builtins.bindParams "min" ["key", "default"] 0 ⟨[], kwD d⟩ = pure [none, some d] from rfl) ?_)
  refine wpAny_bind (wpAny_pure ?_)
  refine wpAny_bind (iter_intList hl fun u eu st hfp hlI => ?_)
  subst eu
  refine wpAny_bind (wpAny_newObj_type ?_)
  rw [nameL]
  refine wpAny_pure ⟨plainId_quiet PySem.F.plain_min_loop _, firstD (Walks.list (A := A.in1) hh _ l hlI (intItems xs)) _ (CmpOf.ints_lt (numAt xs) (fun _ _ => intItems_at)) (fun hm => Nat.lt_irrefl _ (hfp _ hm)) ?_ (Heap.get?_push_size _ rfl) fun v g tk p1 p2 keep => ?_⟩
  · exact (Walks.list (prog := prog) (w := w) (A := A.in1) hh _ l hlI (intItems xs)).frame _ _ _ st fun b _ o e => Heap.get?_push_of_some _ e
  · have hsz : (intItems xs).size = xs.size := by simp [intItems]
    refine h v g tk (fun z => by have := p1 (by rw [hsz]; exact z); rw [hsz] at this; exact this) (fun z => p2 (by rw [hsz]; exact z)) (old_kept (l := l) fun b o hb e => ?_)
    exact keep b o hb (Nat.ne_of_lt (Heap.lt_size e)) (Heap.get?_push_of_some _ e)
end
theorem rawD {prog : Program} {w : World} {A : Around} {E : Value → Shared → Prop} {s : Shared} {l : Addr} {its : List Value} {ns : List Int} {z : Int} {t : Tok} {Q : Value → Shared → Prop} (hh : A.handled = none) (hl : s.heap.IsList l its.toArray) (hi : IntsAre its ns)
    (h : ∀ (g : Heap) (tk : Nat) (m : Int) (t' : Tok), (∀ b o, s.heap.get? b = some o → g.get? b = some o) → (ns = [] → m = z) → (ns ≠ [] → m ∈ ns ∧ ∀ y ∈ ns, m ≤ y) → Q (.int m t') { s with heap := g, toks := tk }) :
    wpAny (model prog w) A (call (.builtin "min") [.ref l] (kwD (.int z t))) Q E s := by
  obtain ⟨xs, e⟩ := hi.allInts.items
  have hn : numsOf (intItems xs).toList = ns := by rw [← e]; exact hi.numsOf
  rw [PySem.nums_intItems] at hn
  subst hn
  rw [e] at hl
  refine callD hh hl fun v g tk p1 p2 keep => ?_
  by_cases c : 0 < xs.size
  · obtain ⟨u, rfl⟩ := intItems_at (p1 c)
    obtain ⟨a1, a2⟩ := argBest_lt (numAt xs) (xs.size - 1)
    refine h g tk _ u keep (fun z => ?_) fun _ => ⟨?_, fun y hy => ?_⟩
    · have q : xs.size = 0 := by simpa using congrArg List.length z
      omega
    · rw [PySem.numAt_eq]
      refine PySem.getD_mem ?_
      rw [List.length_map, Array.length_toList]
      exact Nat.lt_of_le_of_lt a1 (by omega)
    · obtain ⟨j, hj, rfl⟩ := PySem.mem_getD hy
      rw [List.length_map, Array.length_toList] at hj
      rw [← PySem.numAt_eq]
      exact a2 j (by omega)
  · rw [p2 (by omega)]
    refine h g tk z t keep (fun _ => rfl) fun q => absurd ?_ q
    have : xs = #[] := Array.eq_empty_of_size_eq_zero (by omega)
    rw [this]
    rfl
end MinD
namespace Bx
open PySem PySem.Spec PyProof.Rows L2
def rMinD (K : PySem.W.Frag) : List V → List V → Hp → VK → Prop := fun xs zs H Q => ∃ (a : Addr) (ns : List Int) (z : Int), xs = [.ref a] ∧ zs = [.int z] ∧ SqL K H a (ns.map V.int) ∧
  ∀ m, (ns = [] → m = z) → (ns ≠ [] → m ∈ ns ∧ ∀ y ∈ ns, m ≤ y) → Q (.int m) H
theorem call_minD {X : Cx} {K : PySem.W.Frag} (h : X.K = K) (hc : X.calm = true) : CallRK X (.builtin "min") ["default"] (rMinD K) := by
  subst h
  intro pins s σ H xs zs us ws Q I r r2 hw
  obtain ⟨a, ns, z, rfl, rfl, hs, q⟩ := hw
  obtain ⟨its, rv, hl, _⟩ := I.list hs
  rw [Vals.ref1 r]
  obtain ⟨u, rfl, ru⟩ := vals1 r2
  obtain ⟨t, rfl⟩ := ru
  exact MinD.rawD (I.ok.hd hc) hl.isList rv.ints fun g tk m t' hk h1 h2 => ⟨.int m, H, I.kept hk, ⟨_, rfl⟩, q m h1 h2⟩
end Bx
namespace Bx
open PySem PySem.Spec PyProof.Rows L2
/-! ### rules over the written part by its name -/
section
variable {X : Cx} {K : PySem.W.Frag}
theorem ix_tupK (h : X.K = K) : IxR X (rIxT K) := h ▸ ix_tup
theorem ix_listK (h : X.K = K) : IxR X (rIxL K) := h ▸ ix_list
theorem ix_seqK (h : X.K = K) : IxR X (rIx K) := h ▸ ix_seq
def rLen (K : PySem.W.Frag) : List V → Hp → VK → Prop := fun xs H Q => ∃ (p : Addr) (ys : List V), xs = [.ref p] ∧ (SqL K H p ys ∨ SqT K H p ys) ∧ Q (.int ys.length) H
theorem call_lenK (h : X.K = K) : CallR X (.builtin "len") (rLen K) := by
  subst h
  exact call_len_seq
def rTupOf (K : PySem.W.Frag) : List V → Hp → VK → Prop := fun xs H Q => ∃ (p : Addr) (ys : List V), xs = [.ref p] ∧ ((SqL K H p ys ∧ ∀ l, H l = none → Q (.ref l) (upd H l (.tup ys))) ∨ (SqT K H p ys ∧ Q (.ref p) H))
theorem call_tuple_ofK (h : X.K = K) : CallR X (.type "tuple") (rTupOf K) := by
  subst h
  exact call_tuple_of
def rLstOf (K : PySem.W.Frag) : List V → Hp → VK → Prop := fun xs H Q => ∃ (p : Addr) (ys : List V), xs = [.ref p] ∧ (SqL K H p ys ∨ SqT K H p ys) ∧ ∀ l, H l = none → Q (.ref l) (upd H l (.lst ys))
theorem call_list_ofK (h : X.K = K) : CallR X (.type "list") (rLstOf K) := by
  subst h
  exact call_list_of
end
end Bx
/-! ### heaps: what one list at d may lose, all else as it was -/
namespace Bx
open PySem PySem.Spec PyProof.Rows L2
def Kp (d : Addr) (H H' : Hp) : Prop := ∀ b o, b ≠ d → H b = some o → H' b = some o
theorem Kp.refl (d : Addr) (H : Hp) : Kp d H H := fun _ _ _ h => h
theorem Kp.trans {d : Addr} {H H1 H2 : Hp} (a : Kp d H H1) (b : Kp d H1 H2) : Kp d H H2 := fun c o n h => b c o n (a c o n h)
theorem Same.kp {d : Addr} {H H' : Hp} (s : Same H H') : Kp d H H' := fun b o _ h => s b o h
theorem Kp.own {d : Addr} {H : Hp} {o : HO} : Kp d H (upd H d o) := fun b _ n h => by rw [upd_ne n]; exact h
theorem same_new {H : Hp} {p : Addr} {o : HO} (h : H p = none) : Same H (upd H p o) := fun b x e => by
  rw [upd_ne (ne_of_none e h)]
  exact e
theorem Kp.new {d p : Addr} {H : Hp} {o : HO} (h : H p = none) : Kp d H (upd H p o) := Same.kp (same_new h)
theorem upd_self {H : Hp} {d : Addr} {o : HO} (h : H d = some o) : upd H d o = H := by
  funext b
  by_cases e : b = d
  · rw [e, upd_same, h]
  · rw [upd_ne e]
/-- a list of ints at d -/
def Ints (H : Hp) (d : Addr) (xs : List Int) : Prop := H d = some (.lst (xs.map V.int))
/-- the draws: some list of ints -/
def Drw (H : Hp) (d : Addr) : Prop := ∃ ds : List Int, H d = some (.lst (ds.map V.int))
theorem Drw.new {H : Hp} {d p : Addr} {o : HO} (h : Drw H d) (n : H p = none) : Drw (upd H p o) d := by
  obtain ⟨ds, e⟩ := h
  exact ⟨ds, same_new n _ _ e⟩
theorem Drw.own {H : Hp} {d : Addr} {ds : List Int} : Drw (upd H d (.lst (ds.map V.int))) d := ⟨ds, upd_same⟩
theorem Drw.same {H H' : Hp} {d : Addr} (h : Drw H d) (s : Same H H') : Drw H' d := by
  obtain ⟨ds, e⟩ := h
  exact ⟨ds, s _ _ e⟩
/-- a tuple of ints -/
def TupI (H : Hp) (a : Addr) (xs : List Int) : Prop := H a = some (.tup (xs.map V.int))
theorem Drw.ne_tup {H : Hp} {d a : Addr} {xs : List V} (h : Drw H d) (e : H a = some (.tup xs)) : a ≠ d := by
  obtain ⟨ds, e2⟩ := h
  exact ne_of e e2 (by intro z; cases z)
/-- a lasso: a pair of tuples of ints -/
def Las (H : Hp) (p : Addr) (h l : List Int) : Prop := ∃ a b, H p = some (.tup [.ref a, .ref b]) ∧ H a = some (.tup (h.map V.int)) ∧ H b = some (.tup (l.map V.int))
theorem Las.keep {H H' : Hp} {d p : Addr} {h l : List Int} (k : Kp d H H') (w : Drw H d) (x : Las H p h l) : Las H' p h l := by
  obtain ⟨a, b, e1, e2, e3⟩ := x
  exact ⟨a, b, k _ _ (w.ne_tup e1) e1, k _ _ (w.ne_tup e2) e2, k _ _ (w.ne_tup e3) e3⟩
theorem Las.same {H H' : Hp} {p : Addr} {h l : List Int} (k : Same H H') (x : Las H p h l) : Las H' p h l := by
  obtain ⟨a, b, e1, e2, e3⟩ := x
  exact ⟨a, b, k _ _ e1, k _ _ e2, k _ _ e3⟩
theorem lenI {xs : List Int} (h : xs.length ≤ 1000000) : (xs.map V.int).length < sizeLine := by
  rw [List.length_map]
  exact Nat.lt_of_le_of_lt h (by decide)
theorem ixN_at {n j : Nat} (h : j < n) : ixN n (j : Int) = some j := by
  unfold ixN
  rw [if_pos (by omega), if_pos (by omega)]
  rfl
theorem set_mapI {xs : List Int} {j : Nat} {v : Int} : (xs.map V.int).set j (.int v) = (xs.set j v).map V.int := by rw [List.map_set]
/-- a list or a tuple of ints -/
def SeqI (H : Hp) (a : Addr) (xs : List Int) : Prop := H a = some (.lst (xs.map V.int)) ∨ H a = some (.tup (xs.map V.int))
theorem SeqI.sq {K : PySem.W.Frag} {H : Hp} {a : Addr} {xs : List Int} (h : SeqI H a xs) : SqL K H a (xs.map V.int) ∨ SqT K H a (xs.map V.int) := by
  rcases h with h | h
  · exact .inl (.of h)
  · exact .inr (.of h)
theorem SeqI.same {H H' : Hp} {a : Addr} {xs : List Int} (k : Same H H') (h : SeqI H a xs) : SeqI H' a xs := by
  rcases h with h | h
  · exact .inl (k _ _ h)
  · exact .inr (k _ _ h)
/-- a pair of lists or tuples of ints -/
def Pr (H : Hp) (p : Addr) (h l : List Int) : Prop := ∃ a b, H p = some (.tup [.ref a, .ref b]) ∧ SeqI H a h ∧ SeqI H b l
theorem Las.pr {H : Hp} {p : Addr} {h l : List Int} (x : Las H p h l) : Pr H p h l := by
  obtain ⟨a, b, e1, e2, e3⟩ := x
  exact ⟨a, b, e1, .inr e2, .inr e3⟩
theorem Pr.same {H H' : Hp} {p : Addr} {h l : List Int} (k : Same H H') (x : Pr H p h l) : Pr H' p h l := by
  obtain ⟨a, b, e1, e2, e3⟩ := x
  exact ⟨a, b, k _ _ e1, e2.same k, e3.same k⟩
/-- an item -/
theorem ixq {K : PySem.W.Frag} {H : Hp} {a : Addr} {xs : List Int} {i : Int} {j : Nat} {v : V} {Q : VK} (h : SeqI H a xs) (ei : i = (j : Int)) (e : (xs.map V.int)[j]? = some v) (q : Q v H) : rIx K (.ref a) (.int i) H Q := by
  subst ei
  rcases h with h | h
  · exact .inl ⟨_, _, _, _, rfl, rfl, .of h, atI_nat e, q⟩
  · exact .inr (.inl ⟨_, _, _, _, rfl, rfl, .of h, atI_nat e, q⟩)
theorem ixq_last {K : PySem.W.Frag} {H : Hp} {a : Addr} {xs : List Int} {z : Int} {Q : VK} (h : SeqI H a xs) (e : xs.getLast? = some z) (q : Q (.int z) H) : rIx K (.ref a) (.int (-1)) H Q := by
  obtain ⟨ys, rfl⟩ := List.getLast?_eq_some_iff.mp e
  have g : atI ((ys ++ [z]).map V.int) (-1) = some (.int z) := by
    rw [List.map_append]
    exact atI_last _ _
  rcases h with h | h
  · exact .inl ⟨_, _, _, _, rfl, rfl, .of h, g, q⟩
  · exact .inr (.inl ⟨_, _, _, _, rfl, rfl, .of h, g, q⟩)
theorem at_map {xs : List Int} {j : Nat} (h : j < xs.length) : (xs.map V.int)[j]? = some (.int (xs.getD j 0)) := by
  rw [List.getElem?_map, List.getElem?_eq_getElem h, List.getD_eq_getElem?_getD, List.getElem?_eq_getElem h]
  rfl
/-! slices -/
section
variable {X : Cx} {K : PySem.W.Frag}
def rSlQ (K : PySem.W.Frag) : V → Option Int → Option Int → Hp → VK → Prop := fun x lo hi H Q => rSlL K x lo hi H Q ∨ rSlA K x lo hi H Q
theorem sl_seqK (h : X.K = K) : SlR X (rSlQ K) := by
  subst h
  exact sl_list.or sl_tupA
theorem sl_tupK (h : X.K = K) : SlR X (rSlA K) := by
  subst h
  exact sl_tupA
theorem sl_listK (h : X.K = K) : SlR X (rSlL K) := by
  subst h
  exact sl_list
theorem op_catK (h : X.K = K) : OpR X (binaryOp .Add) (rCatA K) := by
  subst h
  exact op_catA
theorem op_repTK (h : X.K = K) : OpR X (binaryOp .Mult) (rRepT K) := by
  subst h
  exact op_repT
theorem op_eqDK (h : X.K = K) (hu : X.A.units + 64 < cLine) : OpR X (compareOp .Eq) (rEqD K) := by
  subst h
  exact op_eqD hu
theorem op_neDK (h : X.K = K) (hu : X.A.units + 64 < cLine) : OpR X (compareOp .NotEq) (rNeD K) := by
  subst h
  exact op_neD hu
theorem call_minK (h : X.K = K) (hc : X.calm = true) : CallR X (.builtin "min") (rMin K) := by
  subst h
  exact cr_min hc
theorem call_isiK' (h : X.K = K) : CallR X (.builtin "isinstance") (rIsi K) := by
  subst h
  exact call_isi
end
theorem cut_map {xs : List Int} {lo hi : Option Int} : cutV (xs.map V.int) lo hi = ((xs.drop (HT.sIx xs.length 0 lo)).take (HT.sIx xs.length xs.length hi - HT.sIx xs.length 0 lo)).map V.int := by
  unfold cutV
  rw [List.length_map, List.map_take, List.map_drop]
/-- a slice of a tuple -/
theorem slt {K : PySem.W.Frag} {H : Hp} {a : Addr} {xs ys : List Int} {lo hi : Option Int} {Q : VK} (h : TupI H a xs) (e : (xs.drop (HT.sIx xs.length 0 lo)).take (HT.sIx xs.length xs.length hi - HT.sIx xs.length 0 lo) = ys)
    (q : ∀ (H' : Hp) (p : Addr), Same H H' → TupI H' p ys → Q (.ref p) H') : rSlA K (.ref a) lo hi H Q := by
  subst e
  refine ⟨a, _, rfl, .of h, fun w => ?_, fun _ p hp => q _ p (same_new hp) ?_⟩
  · refine q H a (Same.refl H) ?_
    rw [List.length_map] at w
    rw [w.1, w.2, List.drop_zero, Nat.sub_zero, List.take_length]
    exact h
  · unfold TupI
    rw [upd_same, cut_map]
/-- a slice of a list or tuple -/
theorem slq {K : PySem.W.Frag} {H : Hp} {a : Addr} {xs ys : List Int} {lo hi : Option Int} {Q : VK} (h : SeqI H a xs) (e : (xs.drop (HT.sIx xs.length 0 lo)).take (HT.sIx xs.length xs.length hi - HT.sIx xs.length 0 lo) = ys)
    (q : ∀ (H' : Hp) (p : Addr), Same H H' → SeqI H' p ys → Q (.ref p) H') : rSlQ K (.ref a) lo hi H Q := by
  rcases h with h | h
  · subst e
    refine .inl ⟨a, _, rfl, .of h, fun p hp => q _ p (same_new hp) (.inl ?_)⟩
    rw [upd_same, cut_map]
  · exact .inr (slt h e fun H' p s t => q H' p s (.inr t))
theorem cut_to (xs : List Int) (n : Nat) : (xs.drop (HT.sIx xs.length 0 none)).take (HT.sIx xs.length xs.length (some (n : Int)) - HT.sIx xs.length 0 none) = xs.take n := by
  rw [HT.sIx_none, HT.sIx_nat, List.drop_zero, Nat.sub_zero]
  rcases Nat.le_total n xs.length with c | c
  · rw [Nat.min_eq_left c]
  · rw [Nat.min_eq_right c, List.take_length, List.take_of_length_le c]
theorem cut_from (xs : List Int) {n : Nat} (hn : n ≤ xs.length) : (xs.drop (HT.sIx xs.length 0 (some (n : Int)))).take (HT.sIx xs.length xs.length none - HT.sIx xs.length 0 (some (n : Int))) = xs.drop n := by
  rw [HT.sIx_none, HT.sIx_nat, Nat.min_eq_left hn]
  exact List.take_of_length_le (by rw [List.length_drop]; exact Nat.le_refl _)
theorem slt_to {K : PySem.W.Frag} {H : Hp} {a : Addr} {xs : List Int} {k : Int} {n : Nat} {Q : VK} (h : TupI H a xs) (ek : k = (n : Int))
    (q : ∀ (H' : Hp) (p : Addr), Same H H' → TupI H' p (xs.take n) → Q (.ref p) H') : rSlA K (.ref a) none (some k) H Q := by
  subst ek
  exact slt h (cut_to xs n) q
theorem slt_from {K : PySem.W.Frag} {H : Hp} {a : Addr} {xs : List Int} {k : Int} {n : Nat} {Q : VK} (h : TupI H a xs) (ek : k = (n : Int)) (hn : n ≤ xs.length)
    (q : ∀ (H' : Hp) (p : Addr), Same H H' → TupI H' p (xs.drop n) → Q (.ref p) H') : rSlA K (.ref a) (some k) none H Q := by
  subst ek
  exact slt h (cut_from xs hn) q
theorem slq_to {K : PySem.W.Frag} {H : Hp} {a : Addr} {xs : List Int} {k : Int} {n : Nat} {Q : VK} (h : SeqI H a xs) (ek : k = (n : Int))
    (q : ∀ (H' : Hp) (p : Addr), Same H H' → SeqI H' p (xs.take n) → Q (.ref p) H') : rSlQ K (.ref a) none (some k) H Q := by
  subst ek
  exact slq h (cut_to xs n) q
theorem slq_mid {K : PySem.W.Frag} {H : Hp} {a : Addr} {xs : List Int} {k k2 : Int} {n m : Nat} {Q : VK} (h : SeqI H a xs) (ek : k = (n : Int)) (ek2 : k2 = (m : Int)) (hn : n ≤ xs.length) (hm : m ≤ xs.length)
    (q : ∀ (H' : Hp) (p : Addr), Same H H' → SeqI H' p ((xs.drop n).take (m - n)) → Q (.ref p) H') : rSlQ K (.ref a) (some k) (some k2) H Q := by
  subst ek
  subst ek2
  refine slq h ?_ q
  rw [HT.sIx_nat, HT.sIx_nat, Nat.min_eq_left hn, Nat.min_eq_left hm]
/-- tuple(x) -/
theorem tupq {K : PySem.W.Frag} {H : Hp} {a : Addr} {xs : List Int} {Q : VK} (h : SeqI H a xs) (q : ∀ (H' : Hp) (p : Addr), Same H H' → TupI H' p xs → Q (.ref p) H') : rTupOf K [.ref a] H Q := by
  rcases h with h | h
  · exact ⟨a, _, rfl, .inl ⟨.of h, fun p hp => q _ p (same_new hp) upd_same⟩⟩
  · exact ⟨a, _, rfl, .inr ⟨.of h, q H a (Same.refl H) h⟩⟩
/-- x + y of tuples -/
theorem catq {K : PySem.W.Frag} {H : Hp} {a b : Addr} {xs ys : List Int} {Q : VK} (h : TupI H a xs) (g : TupI H b ys) (hl : xs.length + ys.length ≤ 1000000) (q : ∀ (H' : Hp) (p : Addr), Same H H' → TupI H' p (xs ++ ys) → Q (.ref p) H') : rCatA K (.ref a) (.ref b) H Q := by
  refine ⟨a, b, _, _, rfl, rfl, .of h, .of g, ?_, fun z => ?_, fun _ z => ?_, fun _ _ p hp => ?_⟩
  · rw [List.length_map, List.length_map]
    exact Nat.le_trans hl (by decide)
  · have e : xs = [] := List.map_eq_nil_iff.mp z
    refine q H b (Same.refl H) ?_
    rw [e]
    exact g
  · have e : ys = [] := List.map_eq_nil_iff.mp z
    refine q H a (Same.refl H) ?_
    rw [e, List.append_nil]
    exact h
  · refine q _ p (same_new hp) ?_
    unfold TupI
    rw [upd_same, List.map_append]
/-- a slice of a list -/
theorem sll_from {K : PySem.W.Frag} {H : Hp} {a : Addr} {xs : List Int} {k : Int} {n : Nat} {Q : VK} (h : H a = some (.lst (xs.map V.int))) (ek : k = (n : Int)) (hn : n ≤ xs.length)
    (q : ∀ p, H p = none → Q (.ref p) (upd H p (.lst ((xs.drop n).map V.int)))) : rSlL K (.ref a) (some k) none H Q := by
  subst ek
  refine ⟨a, _, rfl, .of h, fun p hp => ?_⟩
  rw [cut_map, cut_from xs hn]
  exact q p hp
theorem sll_to {K : PySem.W.Frag} {H : Hp} {a : Addr} {xs : List Int} {k : Int} {n : Nat} {Q : VK} (h : H a = some (.lst (xs.map V.int))) (ek : k = (n : Int))
    (q : ∀ p, H p = none → Q (.ref p) (upd H p (.lst ((xs.take n).map V.int)))) : rSlL K (.ref a) none (some k) H Q := by
  subst ek
  refine ⟨a, _, rfl, .of h, fun p hp => ?_⟩
  rw [cut_map, cut_to xs n]
  exact q p hp
/-! == of data -/
theorem eqvAll_int : ∀ xs ys : List Int, PyData.eqvAll (xs.map PyData.int) (ys.map PyData.int) = decide (xs = ys)
  | [], [] => by simp [PyData.eqvAll]
  | [], y :: ys => by simp [PyData.eqvAll]
  | x :: xs, [] => by simp [PyData.eqvAll]
  | x :: xs, y :: ys => by
    rw [List.map_cons, List.map_cons, PyData.eqvAll, eqvAll_int xs ys, PyData.eqv]
    by_cases c : x = y
    · by_cases d : xs = ys
      · simp [c, d]
      · simp [c, d]
    · simp [c]
theorem eqv_tup (xs ys : List Int) : PyData.eqv (.tuple (xs.map PyData.int)) (.tuple (ys.map PyData.int)) = decide (xs = ys) := by
  rw [PyData.eqv]
  exact eqvAll_int xs ys
theorem eqv_lst (xs ys : List Int) : PyData.eqv (.list (xs.map PyData.int)) (.list (ys.map PyData.int)) = decide (xs = ys) := by
  rw [PyData.eqv]
  exact eqvAll_int xs ys
theorem layAll : ∀ xs : List Int, PyData.canLayAll0 (xs.map PyData.int) = true
  | [] => rfl
  | x :: xs => by
    rw [List.map_cons, PyData.canLayAll0, layAll xs]
    rfl
theorem depAll : ∀ xs : List Int, PyData.depthAll (xs.map PyData.int) = 0
  | [] => by simp [PyData.depthAll]
  | x :: xs => by
    rw [List.map_cons, PyData.depthAll, depAll xs]
    simp [PyData.depth]
theorem shaped_tup (xs : List Int) : SeqAt.shaped (.tuple (xs.map PyData.int)) = true := by
  unfold SeqAt.shaped
  rw [PyData.canLay0, layAll, PyData.depth, depAll]
  rfl
theorem shaped_lst (xs : List Int) : SeqAt.shaped (.list (xs.map PyData.int)) = true := by
  unfold SeqAt.shaped
  rw [PyData.canLay0, layAll, PyData.depth, depAll]
  rfl
theorem dpAll_int {K : PySem.W.Frag} {H : Hp} : ∀ xs : List Int, DpAll K H (xs.map V.int) (xs.map PyData.int)
  | [] => .nil
  | x :: xs => .cons (.int x) (dpAll_int xs)
theorem dp_lst {K : PySem.W.Frag} {H : Hp} {a : Addr} {xs : List Int} (h : H a = some (.lst (xs.map V.int))) : Dp K H (.ref a) (.list (xs.map PyData.int)) := .lst (.of h) (dpAll_int xs)
theorem dp_tup {K : PySem.W.Frag} {H : Hp} {a : Addr} {xs : List Int} (h : TupI H a xs) : Dp K H (.ref a) (.tuple (xs.map PyData.int)) := .tup (.of h) (dpAll_int xs)
theorem ite_ne {x y : Int} {A B : Prop} (h1 : x ≠ y → A) (h2 : x = y → B) : if (!decide (V.int x = V.int y)) = true then A else B := by
  by_cases c : x = y
  · rw [c, decide_eq_true rfl]
    exact iteF (h2 c)
  · rw [decide_eq_false (fun z => c (V.int.inj z))]
    exact iteT (h1 c)
theorem ite_eq {x y : Int} {A B : Prop} (h1 : x = y → A) (h2 : x ≠ y → B) : if decide (V.int x = V.int y) = true then A else B := by
  by_cases c : x = y
  · rw [c, decide_eq_true rfl]
    exact iteT (h1 c)
  · rw [decide_eq_false (fun z => c (V.int.inj z))]
    exact iteF (h2 c)
theorem ite_lt {x y : Int} {A B : Prop} (h1 : x < y → A) (h2 : y ≤ x → B) : if decide (x < y) = true then A else B := by
  by_cases c : x < y
  · rw [decide_eq_true c]
    exact iteT (h1 c)
  · rw [decide_eq_false c]
    exact iteF (h2 (by omega))
/-! ### the letters of a word -/
def wat (h l : List Int) (t : Nat) : Int := if t < h.length then h.getD t 0 else l.getD ((t - h.length) % l.length) 0
theorem wat_head {h l : List Int} {t : Nat} (c : t < h.length) : (h.map V.int)[t]? = some (.int (wat h l t)) := by
  unfold wat
  rw [if_pos c, List.getElem?_map, List.getElem?_eq_getElem c, List.getD_eq_getElem?_getD, List.getElem?_eq_getElem c]
  rfl
theorem wat_loop {h l : List Int} {t : Nat} (c : ¬ t < h.length) (n : l ≠ []) : (l.map V.int)[(t - h.length) % l.length]? = some (.int (wat h l t)) := by
  have hl : 0 < l.length := List.length_pos_iff.mpr n
  have c2 : (t - h.length) % l.length < l.length := Nat.mod_lt _ hl
  unfold wat
  rw [if_neg c, List.getElem?_map, List.getElem?_eq_getElem c2, List.getD_eq_getElem?_getD, List.getElem?_eq_getElem c2]
  rfl
theorem ix_mod {t n m : Nat} (h : n ≤ t) : ((t : Int) - (n : Int)) % (m : Int) = (((t - n) % m : Nat) : Int) := by
  have e : ((t : Int) - (n : Int)) = ((t - n : Nat) : Int) := by omega
  rw [e]
  rfl
/-! ### promises of the helpers -/
def spTake : Sp := fun vs H Q _ => ∃ (d : Addr) (n : Int), vs = [.ref d, .int n] ∧ Drw H d ∧ 0 < n ∧
  ∀ (r : Int) (ds : List Int), 0 ≤ r → r < n → Q (.int r) (upd H d (.lst (ds.map V.int)))
def spDraws (K : PySem.W.Frag) : Sp := fun vs H Q _ => ∃ (a : Addr) (ns : List Int) (c : Nat), vs = [.ref a, .int c] ∧ SqL K H a (ns.map V.int) ∧ c ≤ 1000 ∧
  ∀ (H' : Hp) (d : Addr), Same H H' → H d = none → Drw H' d → Q (.ref d) H'
def spAt : Sp := fun vs H Q _ => ∃ (p : Addr) (h l : List Int) (t : Nat), vs = [.ref p, .int t] ∧ Pr H p h l ∧ l ≠ [] ∧ Q (.int (wat h l t)) H
def spLasso : Sp := fun vs H Q _ => ∃ (d : Addr) (n : Int) (m : Nat), vs = [.ref d, .int n, .int m] ∧ Drw H d ∧ 0 < n ∧ 0 < m ∧ m ≤ 1000 ∧
  ∀ (H' : Hp) (p : Addr) (h l : List Int), Kp d H H' → Drw H' d → Las H' p h l → h.length ≤ m → l ≠ [] → l.length ≤ m → (∀ x ∈ h, 0 ≤ x ∧ x < n) → (∀ x ∈ l, 0 ≤ x ∧ x < n) → Q (.ref p) H'
/-- v says where f and g first differ below n -/
def IsDiff (f g : Nat → Int) (n : Nat) (v : V) : Prop := (v = .non ∧ ∀ t < n, f t = g t) ∨ ∃ t, t < n ∧ v = .int (t : Nat) ∧ f t ≠ g t ∧ ∀ s < t, f s = g s
theorem IsDiff.uniq {f g : Nat → Int} {n : Nat} {v u : V} (a : IsDiff f g n v) (b : IsDiff f g n u) : v = u := by
  rcases a with ⟨rfl, a⟩ | ⟨t, ht, rfl, a1, a2⟩
  · rcases b with ⟨rfl, b⟩ | ⟨s, hs, rfl, b1, b2⟩
    · rfl
    · exact absurd (a s hs) b1
  · rcases b with ⟨rfl, b⟩ | ⟨s, hs, rfl, b1, b2⟩
    · exact absurd (b t ht) a1
    · rcases Nat.lt_trichotomy t s with c | c | c
      · exact absurd (b2 t c) a1
      · rw [c]
      · exact absurd (a2 s c) b1
theorem IsDiff.swap {f g : Nat → Int} {n : Nat} {v : V} (a : IsDiff f g n v) : IsDiff g f n v := by
  rcases a with ⟨rfl, a⟩ | ⟨t, ht, rfl, a1, a2⟩
  · exact .inl ⟨rfl, fun t h => (a t h).symm⟩
  · exact .inr ⟨t, ht, rfl, a1.symm, fun s h => (a2 s h).symm⟩
def dfn (h1 l1 h2 l2 : List Int) : Nat := max h1.length h2.length + l1.length + l2.length
def spFd : Sp := fun vs H Q _ => ∃ (p q : Addr) (h1 l1 h2 l2 : List Int), vs = [.ref p, .ref q] ∧ Las H p h1 l1 ∧ Las H q h2 l2 ∧ l1 ≠ [] ∧ l2 ≠ [] ∧ dfn h1 l1 h2 l2 ≤ 1000000 ∧
  ∀ v, IsDiff (wat h1 l1) (wat h2 l2) (dfn h1 l1 h2 l2) v → Q v H
theorem max_if (a b : Nat) : (if ((b : Nat) : Int) > (a : Int) then (b : Int) else (a : Int)) = ((max a b : Nat) : Int) := by
  by_cases h : ((b : Nat) : Int) > (a : Int)
  · rw [if_pos h]
    omega
  · rw [if_neg h]
    omega
/-- the letters of a list, by places -/
def lw (l : List Int) : Nat → Int := fun i => l.getD i 0
def spPeriod : Sp := fun vs H Q _ => ∃ (a : Addr) (l : List Int), vs = [.ref a] ∧ SeqI H a l ∧ l ≠ [] ∧ l.length ≤ 1000000 ∧
  ∀ (H' : Hp) (r : Nat), Same H H' → Wd.Least (lw l) l.length r → Q (.int r) H'
/-- the normal form (h', l') of (h, l) -/
structure Short (h l h' l' : List Int) : Prop where
  ne : l' ≠ []
  same : ∀ t, wat h' l' t = wat h l t
  hl : h'.length ≤ h.length
  ll : l'.length ≤ l.length
  last : h' ≠ [] → h'.getLast? ≠ l'.getLast?
  prim : ∀ p, 0 < p → p < l'.length → p ∣ l'.length → ∃ i, i + p < l'.length ∧ lw l' i ≠ lw l' (i + p)
  memH : ∀ x ∈ h', x ∈ h
  memL : ∀ x ∈ l', x ∈ l
/-- the letter of the repeated word at any whole number of turns from where it begins -/
def bk (l : List Int) (r : Nat) (z : Int) : Int := lw l ((z % (r : Int)).toNat)
def rot (l : List Int) (r c : Nat) : List Int := (l.drop c).take (r - c) ++ l.take c
theorem rot_len {l : List Int} {r c : Nat} (hc : c < r) (hr : r ≤ l.length) : (rot l r c).length = r := by
  unfold rot
  rw [List.length_append, List.length_take, List.length_drop, List.length_take]
  omega
theorem lw_get {l : List Int} {i : Nat} (h : i < l.length) : l[i]? = some (lw l i) := by
  unfold lw
  rw [List.getD_eq_getElem?_getD, List.getElem?_eq_getElem h]
  rfl
theorem lw_of {l : List Int} {i : Nat} {x : Int} (h : l[i]? = some x) : lw l i = x := by
  unfold lw
  rw [List.getD_eq_getElem?_getD, h]
  rfl
theorem rot_at {l : List Int} {r c j : Nat} (hc : c < r) (hr : r ≤ l.length) (hj : j < r) : lw (rot l r c) j = lw l ((j + c) % r) := by
  apply lw_of
  unfold rot
  have e1 : ((l.drop c).take (r - c)).length = r - c := by
    rw [List.length_take, List.length_drop]
    omega
  rcases Nat.lt_or_ge j (r - c) with h | h
  · rw [List.getElem?_append_left (by rw [e1]; exact h), List.getElem?_take, if_pos h, List.getElem?_drop, Nat.mod_eq_of_lt (by omega), Nat.add_comm c j]
    exact lw_get (by omega)
  · rw [List.getElem?_append_right (by rw [e1]; exact h), e1, List.getElem?_take, if_pos (by omega)]
    have e2 : (j + c) % r = j - (r - c) := by
      rw [Nat.mod_eq_sub_mod (by omega), Nat.mod_eq_of_lt (by omega)]
      omega
    rw [e2]
    exact lw_get (by omega)
theorem bk_shift {l : List Int} {r : Nat} {a b z : Int} (h : a = b + r * z) : bk l r a = bk l r b := by
  unfold bk
  rw [h, Int.add_mul_emod_self_left]
theorem bk_nat {l : List Int} {r t : Nat} : bk l r (t : Int) = lw l (t % r) := rfl
theorem least_le {w : Nat → Int} {n r : Nat} (hn : 0 < n) (L : Wd.Least w n r) : r ≤ n := Nat.le_of_dvd hn L.dvd
/-- the letters of l repeated, by the least repetition -/
theorem cyc_least {l : List Int} {r : Nat} (hn : 0 < l.length) (L : Wd.Least (lw l) l.length r) (i : Nat) : lw l (i % l.length) = bk l r (i : Int) := by
  have h1 : Wd.cyc (lw l) l.length i = Wd.cyc (lw l) l.length (i % r) := L.rp.mod
  have h2 : Wd.cyc (lw l) l.length (i % r) = lw l (i % r) := Wd.cyc_lt (Nat.lt_of_lt_of_le (Nat.mod_lt _ L.pos) (least_le hn L))
  rw [bk_nat, ← h2, ← h1]
  rfl
theorem cut_lt {r : Nat} (hr : 0 < r) (z : Int) : (z % (r : Int)).toNat < r := by
  have h1 := Int.emod_nonneg z (show (r : Int) ≠ 0 by omega)
  have h2 := Int.emod_lt_of_pos z (show (0 : Int) < (r : Int) by omega)
  omega
theorem cut_int {r : Nat} (hr : 0 < r) (z : Int) : (((z % (r : Int)).toNat : Nat) : Int) = z - r * (z / r) := by
  have h1 := Int.emod_nonneg z (show (r : Int) ≠ 0 by omega)
  rw [Int.toNat_of_nonneg h1, Int.emod_def]
theorem rot_bk {l : List Int} {r : Nat} (hr0 : 0 < r) (hr : r ≤ l.length) (z : Int) (j : Nat) : lw (rot l r (z % (r : Int)).toNat) (j % r) = bk l r ((j : Int) + z) := by
  rw [rot_at (cut_lt hr0 z) hr (Nat.mod_lt _ hr0), Nat.mod_add_mod]
  have h : bk l r (((j + (z % (r : Int)).toNat : Nat)) : Int) = bk l r ((j : Int) + z) := bk_shift (z := -(z / r)) (by
    rw [Int.natCast_add, cut_int hr0, Int.mul_neg]
    omega)
  rw [← h]
  rfl
theorem short_of {h l : List Int} {r k : Nat} (hne : l ≠ []) (L : Wd.Least (lw l) l.length r) (hk : k ≤ h.length)
    (hB : ∀ t, k ≤ t → t < h.length → lw h t = bk l r ((t : Int) - (h.length : Int))) (hX : k = 0 ∨ lw h (k - 1) ≠ bk l r ((k : Int) - 1 - (h.length : Int))) :
    Short h l (h.take k) (rot l r (((k : Int) - (h.length : Int)) % (r : Int)).toNat) := by
  have hn : 0 < l.length := List.length_pos_iff.mpr hne
  have hr0 := L.pos
  have hr := least_le hn L
  have hlen := rot_len (cut_lt hr0 ((k : Int) - (h.length : Int))) hr
  have htk : (h.take k).length = k := by
    rw [List.length_take]
    omega
  refine ⟨fun z => ?_, fun t => ?_, by rw [htk]; exact hk, by rw [hlen]; exact hr, fun hh => ?_, fun p hp hpl hpd => ?_, fun x hx => List.mem_of_mem_take hx, fun x hx => ?_⟩
  · rw [z] at hlen
    have : (0 : Nat) = r := hlen
    omega
  · unfold wat
    rw [htk, hlen]
    by_cases c : t < k
    · rw [if_pos c, if_pos (by omega), List.getD_eq_getElem?_getD, List.getD_eq_getElem?_getD, List.getElem?_take, if_pos c]
    · rw [if_neg c]
      have e1 := rot_bk (l := l) hr0 hr ((k : Int) - (h.length : Int)) (t - k)
      have e2 : ((t - k : Nat) : Int) + ((k : Int) - (h.length : Int)) = (t : Int) - (h.length : Int) := by omega
      rw [e2] at e1
      show lw _ _ = _
      rw [e1]
      by_cases d : t < h.length
      · rw [if_pos d]
        exact (hB t (by omega) d).symm
      · rw [if_neg d]
        have e3 : (t : Int) - (h.length : Int) = ((t - h.length : Nat) : Int) := by omega
        rw [e3]
        exact (cyc_least hn L _).symm
  · have hk0 : k ≠ 0 := fun z => hh (by rw [z]; rfl)
    rcases hX with z | z
    · exact absurd z hk0
    · rw [List.getLast?_eq_getElem?, List.getLast?_eq_getElem?, htk, hlen]
      rw [List.getElem?_take, if_pos (by omega), lw_get (show k - 1 < h.length by omega), lw_get (show r - 1 < (rot l r _).length by rw [hlen]; omega)]
      intro q
      refine z ?_
      rw [Option.some.inj q]
      have e1 := rot_bk (l := l) hr0 hr ((k : Int) - (h.length : Int)) (r - 1)
      rw [Nat.mod_eq_of_lt (show r - 1 < r by omega)] at e1
      rw [e1]
      exact bk_shift (z := 1) (by omega)
  · rw [hlen] at hpl hpd ⊢
    apply Classical.byContradiction
    intro hno
    have hall : ∀ i, i + p < r → lw (rot l r (((k : Int) - (h.length : Int)) % (r : Int)).toNat) i = lw (rot l r (((k : Int) - (h.length : Int)) % (r : Int)).toNat) (i + p) := fun i hi =>
      Classical.byContradiction fun q => hno ⟨i, hi, q⟩
    have hrp := Wd.rp_of hp hpd hr0 hall
    have key : ∀ i, Wd.cyc (lw l) l.length i = Wd.cyc (lw (rot l r (((k : Int) - (h.length : Int)) % (r : Int)).toNat)) r (i + (r - (((k : Int) - (h.length : Int)) % (r : Int)).toNat)) := by
      intro i
      have hc := cut_lt hr0 ((k : Int) - (h.length : Int))
      have a1 : Wd.cyc (lw l) l.length i = bk l r (i : Int) := cyc_least hn L i
      have a2 := rot_at hc hr (Nat.mod_lt (i + (r - (((k : Int) - (h.length : Int)) % (r : Int)).toNat)) hr0)
      rw [a1]
      show _ = lw _ (_ % r)
      rw [a2, Nat.mod_add_mod, show i + (r - (((k : Int) - (h.length : Int)) % (r : Int)).toNat) + (((k : Int) - (h.length : Int)) % (r : Int)).toNat = i + r by omega, Nat.add_mod_right]
      rfl
    have hR : Wd.Rp (lw l) l.length p := fun i => by
      rw [key, key, Nat.add_right_comm]
      exact hrp _
    have := L.min p hp (Nat.dvd_trans hpd L.dvd) hR
    omega
  · unfold rot at hx
    rcases List.mem_append.mp hx with z | z
    · exact List.mem_of_mem_drop (List.mem_of_mem_take z)
    · exact List.mem_of_mem_take z
theorem rp_mod {w : Nat → Int} {n p q : Nat} (hp : Wd.Rp w n p) (hq : Wd.Rp w n q) : Wd.Rp w n (q % p) := fun i => by
  have a := hp.mul (q / p) (i + q % p)
  rw [Nat.mul_comm, Nat.add_assoc, Nat.mod_add_div] at a
  rw [← a]
  exact hq i
theorem rp_gcd {w : Nat → Int} {n : Nat} (p q : Nat) : Wd.Rp w n p → Wd.Rp w n q → Wd.Rp w n (Nat.gcd p q) := by
  induction p, q using Nat.gcd.induction with
  | H0 q => intro _ hq; rw [Nat.gcd_zero_left]; exact hq
  | H1 p q hp ih => intro h1 h2; rw [Nat.gcd_rec]; exact ih (rp_mod h1 h2) h1
/-- the normal form -/
structure Nrm (h l : List Int) : Prop where
  ne : l ≠ []
  last : h ≠ [] → h.getLast? ≠ l.getLast?
  prim : ∀ p, 0 < p → p < l.length → p ∣ l.length → ∃ i, i + p < l.length ∧ lw l i ≠ lw l (i + p)
theorem Short.nrm {h l h' l' : List Int} (s : Short h l h' l') : Nrm h' l' := ⟨s.ne, s.last, s.prim⟩
theorem Nrm.pos {h l : List Int} (N : Nrm h l) : 0 < l.length := List.length_pos_iff.mpr N.ne
theorem wat_cyc {h l : List Int} {t : Nat} (c : h.length ≤ t) : wat h l t = Wd.cyc (lw l) l.length (t - h.length) := by
  unfold wat
  rw [if_neg (by omega)]
  rfl
/-- every period that the word has from some turn on is a multiple of the loop's length -/
theorem Nrm.dvd {h l : List Int} (N : Nrm h l) {p M : Nat} (hP : ∀ t, M ≤ t → wat h l (t + p) = wat h l t) : l.length ∣ p := by
  have hr := N.pos
  have hRp : Wd.Rp (lw l) l.length p := fun i => by
    have self := Wd.rp_self (lw l) l.length
    have e1 := self.mul M i
    have e2 := self.mul M (i + p)
    have hM : M ≤ M * l.length := Nat.le_mul_of_pos_right M hr
    have q := hP (h.length + (i + M * l.length)) (by omega)
    rw [wat_cyc (by omega), wat_cyc (by omega)] at q
    rw [show h.length + (i + M * l.length) + p - h.length = i + p + M * l.length by omega, show h.length + (i + M * l.length) - h.length = i + M * l.length by omega, e1, e2] at q
    exact q
  have hg := rp_gcd p l.length hRp (Wd.rp_self (lw l) l.length)
  have gd : Nat.gcd p l.length ∣ l.length := Nat.gcd_dvd_right p l.length
  have gp : 0 < Nat.gcd p l.length := Nat.gcd_pos_of_pos_right p hr
  have gl := Nat.le_of_dvd hr gd
  rcases Nat.lt_or_ge (Nat.gcd p l.length) l.length with c | c
  · obtain ⟨i, hi, hne⟩ := N.prim _ gp c gd
    refine absurd ?_ hne
    have := hg i
    rw [Wd.cyc_lt hi, Wd.cyc_lt (by omega)] at this
    exact this.symm
  · have e : Nat.gcd p l.length = l.length := by omega
    rw [← e]
    exact Nat.gcd_dvd_left p l.length
theorem wat_per {h l : List Int} {t : Nat} (c : h.length ≤ t) : wat h l (t + l.length) = wat h l t := by
  rw [wat_cyc c, wat_cyc (by omega), show t + l.length - h.length = (t - h.length) + l.length by omega]
  exact Wd.rp_self (lw l) l.length _
theorem last_at {l : List Int} (n : l ≠ []) : l.getLast? = some (lw l (l.length - 1)) := by
  have := List.length_pos_iff.mpr n
  rw [List.getLast?_eq_getElem?]
  exact lw_get (by omega)
theorem Nrm.head_le {h l g m : List Int} (N : Nrm h l) (hs : ∀ t, wat h l t = wat g m t) (e : l.length = m.length) : h.length ≤ g.length := by
  rcases Nat.lt_or_ge g.length h.length with c | c
  · exfalso
    have hne : h ≠ [] := List.length_pos_iff.mp (by omega)
    refine N.last hne ?_
    rw [last_at hne, last_at N.ne]
    congr 1
    have hp := N.pos
    have a1 : wat h l (h.length - 1) = lw h (h.length - 1) := by
      unfold wat
      rw [if_pos (by omega)]
      rfl
    have a2 : wat h l (h.length - 1 + l.length) = lw l (l.length - 1) := by
      rw [wat_cyc (by omega), show h.length - 1 + l.length - h.length = l.length - 1 by omega, Wd.cyc_lt (by omega)]
    rw [← a1, ← a2, hs, hs, e]
    exact (wat_per (by omega)).symm
  · exact c
theorem Nrm.uniq {h l g m : List Int} (N : Nrm h l) (M : Nrm g m) (hs : ∀ t, wat h l t = wat g m t) : h = g ∧ l = m := by
  have d1 : l.length ∣ m.length := N.dvd (M := g.length) fun t ht => by
    rw [hs, hs]
    exact wat_per ht
  have d2 : m.length ∣ l.length := M.dvd (M := h.length) fun t ht => by
    rw [← hs, ← hs]
    exact wat_per ht
  have e : l.length = m.length := Nat.dvd_antisymm d1 d2
  have e2 : h.length = g.length := Nat.le_antisymm (N.head_le hs e) (M.head_le (fun t => (hs t).symm) e.symm)
  refine ⟨List.ext_getElem e2 fun i h1 h2 => ?_, List.ext_getElem e fun i h1 h2 => ?_⟩
  · have := hs i
    unfold wat at this
    rw [if_pos h1, if_pos h2, List.getD_eq_getElem?_getD, List.getD_eq_getElem?_getD, List.getElem?_eq_getElem h1, List.getElem?_eq_getElem h2] at this
    exact this
  · have := hs (h.length + i)
    rw [wat_cyc (by omega), wat_cyc (by omega), show h.length + i - h.length = i by omega, show h.length + i - g.length = i by omega, Wd.cyc_lt h1, Wd.cyc_lt h2] at this
    have a1 := lw_get h1
    have a2 := lw_get h2
    rw [List.getElem?_eq_getElem h1] at a1
    rw [List.getElem?_eq_getElem h2] at a2
    rw [Option.some.inj a1, Option.some.inj a2, this]
theorem at_last {l : List Int} (n : l ≠ []) : atI (l.map V.int) (-1) = some (.int (lw l (l.length - 1))) := by
  have hp := List.length_pos_iff.mpr n
  have e : l.map V.int = (l.dropLast.map V.int) ++ [.int (l.getLast n)] := by
    rw [← List.map_singleton, ← List.map_append, List.dropLast_concat_getLast]
  rw [e, atI_last]
  have q := last_at n
  rw [List.getLast?_eq_getLast n] at q
  rw [Option.some.inj q]
/-! repetition of a text -/
theorem flat_at {w : List Int} : ∀ (k i : Nat), i < k * w.length → (List.replicate k w).flatten[i]? = w[i % w.length]?
  | 0, i, h => by
    rw [Nat.zero_mul] at h
    exact absurd h (Nat.not_lt_zero i)
  | k + 1, i, h => by
    rw [List.replicate_succ, List.flatten_cons]
    rcases Nat.lt_or_ge i w.length with c | c
    · rw [List.getElem?_append_left c, Nat.mod_eq_of_lt c]
    · rw [List.getElem?_append_right c, flat_at k (i - w.length) (by rw [Nat.succ_mul] at h; omega), ← Nat.mod_eq_sub_mod c]
theorem flat_per {l : List Int} {p k : Nat} (hp : 0 < p) (hpl : p ≤ l.length) (e : l = (List.replicate k (l.take p)).flatten) (hk : k * p = l.length) : ∀ i, i + p < l.length → lw l i = lw l (i + p) := by
  intro i hi
  have el : (l.take p).length = p := by
    rw [List.length_take]
    omega
  have at_ : ∀ j, j < l.length → l[j]? = (l.take p)[j % p]? := fun j hj => by
    have h0 := flat_at (w := l.take p) k j (by rw [el, hk]; exact hj)
    rw [← e, el] at h0
    exact h0
  have h1 := at_ i (by omega)
  have h2 := at_ (i + p) hi
  rw [Nat.add_mod_right, ← h1, lw_get hi, lw_get (show i < l.length by omega)] at h2
  exact (Option.some.inj h2).symm
def spShort : Sp := fun vs H Q _ => ∃ (a b : Addr) (h l : List Int), vs = [.ref a, .ref b] ∧ SeqI H a h ∧ SeqI H b l ∧ l ≠ [] ∧ h.length ≤ 900000 ∧ l.length ≤ 900000 ∧
  ∀ (H' : Hp) (p : Addr) (h' l' : List Int), Same H H' → Las H' p h' l' → Short h l h' l' → Q (.ref p) H'
/-- what suffix hands back -/
def Suf (h l : List Int) (t : Nat) (h' l' : List Int) : Prop := Nrm h' l' ∧ (∀ i, wat h' l' i = wat h l (t + i)) ∧ h'.length ≤ h.length ∧ l'.length ≤ l.length ∧ (∀ x ∈ h', x ∈ h ∨ x ∈ l) ∧ ∀ x ∈ l', x ∈ l
def spSuffix : Sp := fun vs H Q _ => ∃ (p : Addr) (h l : List Int) (t : Nat), vs = [.ref p, .int t] ∧ Las H p h l ∧ l ≠ [] ∧ h.length ≤ 50000 ∧ l.length ≤ 50000 ∧
  ∀ (H' : Hp) (p' : Addr) (h' l' : List Int), Same H H' → Las H' p' h' l' → Suf h l t h' l' → Q (.ref p') H'
def spMake : Sp := fun vs H Q _ => ∃ (a b : Addr) (h l : List Int), vs = [.ref a, .ref b] ∧ H a = some (.lst (h.map V.int)) ∧ H b = some (.lst (l.map V.int)) ∧ l ≠ [] ∧ h.length ≤ 900000 ∧ l.length ≤ 900000 ∧ (∀ x ∈ h, 0 ≤ x) ∧ (∀ x ∈ l, 0 ≤ x) ∧
  ∀ (H' : Hp) (p : Addr) (h' l' : List Int), Same H H' → Las H' p h' l' → Short h l h' l' → Q (.ref p) H'
theorem suf_drop {h l : List Int} {t : Nat} (c : t < h.length) (i : Nat) : wat (h.drop t) l i = wat h l (t + i) := by
  unfold wat
  rw [List.length_drop]
  by_cases d : t + i < h.length
  · rw [if_pos d, if_pos (by omega), List.getD_eq_getElem?_getD, List.getD_eq_getElem?_getD, List.getElem?_drop]
  · rw [if_neg d, if_neg (by omega), show t + i - h.length = i - (h.length - t) by omega]
theorem suf_turn {h l : List Int} {t : Nat} (hn : l ≠ []) (c : h.length ≤ t) (i : Nat) : wat [] (l.drop ((t - h.length) % l.length) ++ l.take ((t - h.length) % l.length)) i = wat h l (t + i) := by
  have hp : 0 < l.length := List.length_pos_iff.mpr hn
  have hc := Nat.mod_lt (t - h.length) hp
  have e : l.drop ((t - h.length) % l.length) ++ l.take ((t - h.length) % l.length) = rot l l.length ((t - h.length) % l.length) := by
    have e3 : (l.drop ((t - h.length) % l.length)).take (l.length - (t - h.length) % l.length) = l.drop ((t - h.length) % l.length) := List.take_of_length_le (by rw [List.length_drop]; exact Nat.le_refl _)
    unfold rot
    rw [e3]
  rw [e, wat_cyc (Nat.zero_le _), wat_cyc (show h.length ≤ t + i by omega), rot_len hc (Nat.le_refl _)]
  show lw _ (_ % _) = lw _ (_ % _)
  rw [rot_at hc (Nat.le_refl _) (Nat.mod_lt _ hp), Nat.mod_add_mod, Nat.add_mod_mod]
  congr 2
  show i - 0 + _ = _
  omega
def spInts : Sp := fun vs H Q _ => ∃ (a : Addr) (xs : List Int) (lo hi : Int), vs = [.ref a, .int lo, .int hi] ∧ TupI H a xs ∧ (∀ x ∈ xs, lo ≤ x ∧ x < hi) ∧ Q (.bl true) H
def spNormal : Sp := fun vs H Q _ => ∃ (p : Addr) (h l : List Int), vs = [.ref p] ∧ Las H p h l ∧ Nrm h l ∧ l.length ≤ 1000 ∧ ∀ H', Same H H' → Q (.bl true) H'
def spIsLasso : Sp := fun vs H Q _ => ∃ (p : Addr) (h l : List Int) (n : Int), vs = [.ref p, .int n] ∧ Las H p h l ∧ Nrm h l ∧ l.length ≤ 1000 ∧ (∀ x ∈ h, 0 ≤ x ∧ x < n) ∧ (∀ x ∈ l, 0 ≤ x ∧ x < n) ∧ ∀ H', Same H H' → Q (.bl true) H'
/-! the same word in other forms -/
theorem wat_mem {h l : List Int} (n : l ≠ []) (t : Nat) : wat h l t ∈ h ∨ wat h l t ∈ l := by
  have hl : 0 < l.length := List.length_pos_iff.mpr n
  unfold wat
  by_cases c : t < h.length
  · rw [if_pos c, List.getD_eq_getElem?_getD, List.getElem?_eq_getElem c]
    exact .inl (List.getElem_mem c)
  · have c2 := Nat.mod_lt (t - h.length) hl
    rw [if_neg c, List.getD_eq_getElem?_getD, List.getElem?_eq_getElem c2]
    exact .inr (List.getElem_mem c2)
theorem range_getD {f : Nat → Int} {n t : Nat} (c : t < n) : ((List.range n).map f).getD t 0 = f t := by
  rw [List.getD_eq_getElem?_getD, List.getElem?_map, List.getElem?_range c]
  rfl
theorem wat_form {h l : List Int} {m k : Nat} (n : l ≠ []) (hk : 0 < k) (t : Nat) :
    wat ((List.range (h.length + m)).map (wat h l)) ((List.range (k * l.length)).map fun t => wat h l (h.length + m + t)) t = wat h l t := by
  have hl : 0 < l.length := List.length_pos_iff.mpr n
  have hkl : 0 < k * l.length := Nat.mul_pos hk hl
  rw [show wat ((List.range (h.length + m)).map (wat h l)) ((List.range (k * l.length)).map fun t => wat h l (h.length + m + t)) t
      = if t < ((List.range (h.length + m)).map (wat h l)).length then ((List.range (h.length + m)).map (wat h l)).getD t 0 else ((List.range (k * l.length)).map fun t => wat h l (h.length + m + t)).getD ((t - ((List.range (h.length + m)).map (wat h l)).length) % ((List.range (k * l.length)).map fun t => wat h l (h.length + m + t)).length) 0 from rfl]
  rw [List.length_map, List.length_range, List.length_map, List.length_range]
  by_cases c : t < h.length + m
  · rw [if_pos c, range_getD c]
  · rw [if_neg c, range_getD (Nat.mod_lt _ hkl), wat_cyc (by omega), wat_cyc (by omega)]
    show lw l (_ % _) = lw l (_ % _)
    congr 1
    have e1 : h.length + m + (t - (h.length + m)) % (k * l.length) - h.length = m + (t - (h.length + m)) % (k * l.length) := by omega
    have e2 : t - h.length = m + (t - (h.length + m)) := by omega
    rw [e1, e2, ← Nat.add_mod_mod, Nat.mod_mod_of_dvd _ ⟨k, Nat.mul_comm k l.length⟩, Nat.add_mod_mod]
theorem wat_front (f h l : List Int) (i : Nat) : wat (f ++ h) l (f.length + i) = wat h l i := by
  unfold wat
  rw [List.length_append]
  by_cases c : i < h.length
  · rw [if_pos c, if_pos (by omega), List.getD_eq_getElem?_getD, List.getD_eq_getElem?_getD, List.getElem?_append_right (by omega), Nat.add_sub_cancel_left]
  · rw [if_neg c, if_neg (by omega), show f.length + i - (f.length + h.length) = i - h.length by omega]
def dLas (h l : List Int) : PyData := .tuple [.tuple (h.map PyData.int), .tuple (l.map PyData.int)]
theorem dp_las {K : PySem.W.Frag} {H : Hp} {p : Addr} {h l : List Int} (x : Las H p h l) : Dp K H (.ref p) (dLas h l) := by
  obtain ⟨a, b, e1, e2, e3⟩ := x
  exact .tup (.of e1) (.cons (dp_tup e2) (.cons (dp_tup e3) .nil))
theorem shaped_las (h l : List Int) : SeqAt.shaped (dLas h l) = true := by
  unfold SeqAt.shaped dLas
  rw [PyData.canLay0, PyData.canLayAll0, PyData.canLayAll0, PyData.canLayAll0, PyData.canLay0, layAll, PyData.canLay0, layAll, PyData.depth, PyData.depthAll, PyData.depthAll, PyData.depthAll, PyData.depth, depAll, PyData.depth, depAll]
  rfl
theorem eqv_las (h l : List Int) : PyData.eqv (dLas h l) (dLas h l) = true := by
  unfold dLas
  rw [PyData.eqv, PyData.eqvAll, PyData.eqvAll, PyData.eqvAll, eqv_tup, eqv_tup]
  simp
def spCell (K : PySem.W.Frag) : Sp := fun vs H Q _ => ∃ (a : Addr) (ns : List Int) (k : Nat), vs = [.ref a, .int k] ∧ SqL K H a (ns.map V.int) ∧ ∀ v : Int, Q (.int v) H
def spNegX (C : Addr) : Sp := fun vs H _ E => ∃ (p : Addr) (t : Int), vs = [.ref p, .int t] ∧ t < 0 ∧ E (.ref C) none H
def spRefuses : Sp := fun vs H Q _ => ∃ (p : Addr) (t : Int), vs = [.ref p, .int t] ∧ t < 0 ∧ Q (.bl true) H
def spSame : Sp := fun vs H Q _ => ∃ (p q : Addr) (h l h2 l2 : List Int), vs = [.ref p, .ref q] ∧ Pr H p h l ∧ Pr H q h2 l2 ∧ l ≠ [] ∧ l2 ≠ [] ∧ dfn h l h2 l2 ≤ 1000000 ∧ (∀ t, wat h l t = wat h2 l2 t) ∧ Q (.bl true) H
def spMakeX (cE cL : Addr) : Sp := fun vs H Q E => ∃ (a b : Addr) (h l : List Int), vs = [.ref a, .ref b] ∧ H a = some (.lst (h.map V.int)) ∧ H b = some (.lst (l.map V.int)) ∧ h.length ≤ 900000 ∧ l.length ≤ 900000 ∧
  (l = [] → E (.ref cE) none H) ∧ (l ≠ [] → (∃ x, (x ∈ h ∨ x ∈ l) ∧ x < 0) → E (.ref cL) none H) ∧
  (l ≠ [] → (∀ x, x ∈ h ∨ x ∈ l → 0 ≤ x) → ∀ (H' : Hp) (p : Addr) (h' l' : List Int), Same H H' → Las H' p h' l' → Short h l h' l' → Q (.ref p) H')
def spOut : Sp := fun vs H Q _ => ∃ (a b : Addr) (h l : List Int), vs = [.ref a, .ref b] ∧ H a = some (.lst (h.map V.int)) ∧ H b = some (.lst (l.map V.int)) ∧ h.length ≤ 900000 ∧ l.length ≤ 900000 ∧
  (l = [] → ∀ (H' : Hp) (p : Addr), Same H H' → H' p = some (.tup [.str "empty", .bl true]) → Q (.ref p) H') ∧
  (l ≠ [] → (∃ x, (x ∈ h ∨ x ∈ l) ∧ x < 0) → ∀ (H' : Hp) (p : Addr), Same H H' → H' p = some (.tup [.str "letter", .bl true]) → Q (.ref p) H') ∧
  (l ≠ [] → (∀ x, x ∈ h ∨ x ∈ l → 0 ≤ x) → ∀ (H' : Hp) (p q : Addr) (h' l' : List Int), Same H H' → H' p = some (.tup [.str "lasso", .ref q]) → Las H' q h' l' → Short h l h' l' → Q (.ref p) H')
theorem neg_cases (h l : List Int) : (∃ x, (x ∈ h ∨ x ∈ l) ∧ x < 0) ∨ ∀ x, x ∈ h ∨ x ∈ l → 0 ≤ x := by
  by_cases c : ∃ x, (x ∈ h ∨ x ∈ l) ∧ x < 0
  · exact .inl c
  · exact .inr fun x hx => by
      rcases Int.lt_or_le x 0 with z | z
      · exact absurd ⟨x, hx, z⟩ c
      · exact z
def spIsInt : Sp := fun vs H Q _ => ∃ (i : Int), vs = [.int i] ∧ Q (.bl true) H
end Bx
/-! ### own errors, two levels below ValueError -/
namespace Bx
open PySem PySem.Spec PyProof.Rows L2
abbrev veB : List Value := [.type "ValueError", .type "Exception", .type "BaseException", .type "object"]
structure ErrC (K : PySem.W.Frag) (mg : Str → Option Value) (x : Str) (C : Addr) : Prop where
  g : mg x = some (.ref C)
  ex : PySem.W.excIn K C veB "ValueError.__new__" = true
  kp : PySem.W.keepIn K (.ref C) = true
  ty : PySem.W.typeIn K (.ref C) = some (.type "type")
  sf : PySem.W.subIn K (.ref C) (.ref C) = some true
  ec : ExcC K C
theorem ErrC.exm {K : PySem.W.Frag} {mg : Str → Option Value} {x : Str} {C : Addr} {cls : Value} {b : Bool} (e : ErrC K mg x C) (h : PySem.W.subIn K cls (.ref C) = some b) : PySem.W.exmOne K cls (.ref C) = some b := PySem.W.exm_ref e.ec.hs e.ec.hd e.ty h
theorem ErrC.me {K : PySem.W.Frag} {mg : Str → Option Value} {x : Str} {C : Addr} (e : ErrC K mg x C) : PySem.W.exmOne K (.ref C) (.ref C) = some true := e.exm e.sf
/-- raise X('..') -/
theorem ErrC.made {X : Cx} {C : Addr} {x m : Str} {j : Nat} {p p2 pos : Pos} (e : ErrC X.K X.mg x C) (hg : Gl X x) (hd : (x == ("__debug__" : Str)) = false := by decide) : PMk X (.Call (.Name x p) [.Constant (.str m) j p2] [] pos) (fun _ H Q => Q (.ref C) none H) :=
  pmk_own PySem.F.excBase_ValueError e.ex e.g e.kp (raises_own e.ec.hs e.ty) hg hd
/-- isinstance(e, c), e the exception that the suite holds -/
def rIsEx (K : PySem.W.Frag) (a : Addr) (cls : Value) (d : Option Addr) : List V → Hp → VK → Prop := fun xs H Q => ∃ D : Addr, cls = .ref D ∧ d = none ∧ ExcC K D ∧ rIsE K D a xs H Q
theorem call_isEx {X : Cx} {K : PySem.W.Frag} {a : Addr} {cls : Value} {d : Option Addr} {oe : Obj} {pn : List (Addr × Obj)} (h : X.K = K) (hz : Zc cls d oe) (hf : ∃ vs, oe.data = .fields vs) : CallR (X.suite a ((a, oe) :: pn)) (.builtin "isinstance") (rIsEx K a cls d) := by
  subst h
  intro pins s σ H xs us Q I r hw
  obtain ⟨D, rfl, rfl, C, hw⟩ := hw
  exact call_isE C hz hf pins s σ H xs us Q I r hw
/-- a def that may raise, by its name -/
structure CalX (P : Program) (w : World) (K : PySem.W.Frag) (mg : Str → Option Value) (base : Heap) (k : Nat) (x : Str) (sp : Sp) : Prop where
  ex : ∃ (f : Addr) (fd : FuncData) (ps : List Str), FnOk P w K mg base (L2.CX P w) k f fd ps sp ∧ mg x = some (.ref f) ∧ PySem.W.keepIn K (.ref f) = true ∧ Binds K fd ps []
theorem pe_cx {X : Cx} {k j : Nat} {x : Str} {sp : Sp} {W : WX} {p pos : Pos} {e : Expr} {es : List Expr} {t : TA} (c : CalX X.prog X.w X.K X.mg X.base k x sp) (hr : Room j X.A) (hk : k ≤ j) (tk : Takes X W) (hg : Gl X x) (ha : PA X (e :: es) t)
    (hdb : (x == ("__debug__" : Str)) = false := by decide) (he : starEach (e :: es) X.env = (false, eval e X.env) :: starEach es X.env := by rfl) (hpl : (backTo pos (starEach es X.env)).any (·.1) = false := by rfl) :
    PE X (.Call (.Name x p) (e :: es) [] pos) (tCallS sp (WE W) t) := by
  obtain ⟨f, fd, ps, F, hm, kp, b⟩ := c.ex
  exact pe_callS F (hr.mono hk) hg hm kp b (fun σ => passAt tk σ) ha hdb he hpl
end Bx
/-! ### several clauses, each with its name: own rule -/
namespace Bx
open PySem PySem.Spec PyProof.Rows L2
/-- what the clauses wish, one after the other: (class, the name's slot, the suite's reading) -/
def wAll (K : PySem.W.Frag) (Wo : WX) (D : Ends) : List (Value × Nat × (Addr → Value → Option Addr → TS)) → WX
  | [] => Wo
  | (c, i, ts) :: r => fun cls d σ H => ∃ b, PySem.W.exmOne K cls c = some b ∧
    (b = true → ∀ a, H a = none → ts a cls d { nx := fun σ' H' => D.nx (σ'.set i none) H', rt := D.rt, bk := fun σ' H' => D.bk (σ'.set i none) H', ct := fun σ' H' => D.ct (σ'.set i none) H' } (σ.set i (some (.ref a))) H) ∧
    (b = false → wAll K Wo D r cls d σ H)
inductive Clauses (Y : Cx) : List ExceptHandler → List (Value × Nat × (Addr → Value → Option Addr → TS)) → Prop
  | nil : Clauses Y [] []
  | cons {x n : Str} {c : Value} {i : Nat} {ts : Addr → Value → Option Addr → TS} {b0 : Stmt} {suite : List Stmt} {p p' : Pos} {cs : List ExceptHandler} {l : List (Value × Nat × (Addr → Value → Option Addr → TS))}
      (hc : Names Y x c) (hi : Y.N[i]? = some n) (hl : Y.env.kindOf n = some .local)
      (su : ∀ (a : Addr) (oe : Obj) (cls : Value) (d : Option Addr) (pn : List (Addr × Obj)), Zc cls d oe → (∃ vs, oe.data = .fields vs) → PSs (Y.suite a ((a, oe) :: pn)) (b0 :: suite) (ts a cls d)) (r : Clauses Y cs l) :
      Clauses Y (.ExceptHandler (some (.Name x p)) (some n) (b0 :: suite) p' :: cs) ((c, i, ts) :: l)
theorem ps_try_all {Y : Cx} {body : List Stmt} {c0 : ExceptHandler} {cs : List ExceptHandler} {l : List (Value × Nat × (Addr → Value → Option Addr → TS))} {pos : Pos} {tb : WX → TS} {Wo : WX}
    (ks : Y.stack = Y.env :: Y.outer) (kf : Y.env.frame = some Y.env.locals) (kN : Y.N.Nodup) (tk : Takes Y Wo)
    (kb : ∀ (W : WX) (pn : List (Addr × Obj)) (xe : Value → Shared → Prop), Takes (Y.tr pn xe) W → PassesOwn (model Y.prog Y.w) Y.A Y.env xe → PSs (Y.tr pn xe) body (tb W))
    (kh : Clauses Y (c0 :: cs) l) : PS Y (.Try body (c0 :: cs) [] [] pos) (fun D σ H => tb (wAll Y.K Wo D l) D σ H) := by
  refine ⟨fun pins u σ H D I hw => ?_⟩
  have okY := I.ok
  have fr := okY.frames
  rw [ks] at fr
  refine wpAny_Try_except ?_
  refine wpAny_mono ((kb (wAll Y.K Wo D l) (Y.pn ++ pins) (fun e u1 => wpAny (model Y.prog Y.w) Y.A (noteFrame e Y.env) (fun _ u2 => wpAny (model Y.prog Y.w) Y.A (setFlight e none) (fun _ u3 =>
    wpAny (model Y.prog Y.w) Y.A (handleBy e Y.env (c0 :: cs)) (SP Y pins D) Y.xe u3) Y.xe u2) Y.xe u1) (fun v g xx => ?_) PassesOwn.looking).run [] u σ H D (I.toTry _) hw) (fun f u1 q => ?_) (fun e u1 q => q)
  · obtain ⟨a, B, sI, pins1, σ1, H1, cls, d, rfl, Jt, nb, up, sk, na, os, ag, w⟩ := xx
    have J : Inv Y pins σ1 H1 sI := Jt.ofTry okY
    have sk1 : Sky B (Y.env :: Y.outer) a (Zc cls d) Y.env.locals g.heap := by rw [← ks]; exact sk
    show wpAny (model Y.prog Y.w) Y.A (noteFrame (.ref a) Y.env) _ _ _
    refine Sky.land Zc.steady fr kf sk1 fun g3 f3 u3 => ?_
    have I3 : Inv Y pins σ1 H1 { g with heap := g3 } := J.landed nb f3.1 (up.trans u3) os ag
    obtain ⟨o3, w3, at3, z3, dt3⟩ := f3.there
    have apart : ∀ {t : Heap} {o : Obj} {vs : Array Value}, t.FunFrames B (Y.env :: Y.outer) → t.get? a = some o → o.data = .fields vs → a ∉ frs (Y.env :: Y.outer) := fun {t o vs} ff e dd hm => by
      obtain ⟨_, o2, e2, q2⟩ := ff.mem hm
      rw [e] at e2
      cases e2
      exact q2 _ dd
    have n0 := apart f3.2.2.1 at3 dt3
    have nL : a ≠ Y.env.locals := fun z => n0 (List.mem_filterMap.mpr ⟨Y.env, List.mem_cons_self, by rw [kf, z]⟩)
    have nF : a ∉ Y.fs := fun hm => by
      obtain ⟨e, he, q⟩ := List.mem_filterMap.mp hm
      exact n0 (List.mem_filterMap.mpr ⟨e, List.mem_cons_of_mem _ he, q⟩)
    have T3 := I3.suite at3 dt3 na nL nF
    have all : ∀ {cs2 : List ExceptHandler} {l2 : List (Value × Nat × (Addr → Value → Option Addr → TS))}, Clauses Y cs2 l2 → wAll Y.K Wo D l2 cls d σ1 H1 →
        wpAny (model Y.prog Y.w) Y.A (handleBy (.ref a) Y.env cs2) (SP Y pins D) Y.xe { g with heap := g3 } := by
      intro cs2 l2 hk
      induction hk with
      | nil =>
        intro w
        refine wpAny_handleBy_nil ?_
        obtain ⟨_, _, _, oe, vs, T, oT, t2, he, hz, hd, h1, _⟩ := id f3
        unfold PySem.passOn
        refine wpAny_bind (wpAny_field he hd h1 ?_)
        rw [if_neg (show ¬ ((Value.ref T == Value.none) = true) from by simp)]
        have away : wpAny (model Y.prog Y.w) Y.A (setFlight (.ref a) Y.env.frame) (fun _ u4 => wpAny (model Y.prog Y.w) Y.A (throw (.ref a) : Sem Flow) (SP Y pins D) Y.xe u4) Y.xe { g with heap := g3 } := by
          rw [kf]
          refine HandSPX.setFlight_upZ f3 fun g4 q4 u4 => wpAny_throw (tk _ _ ?_)
          exact ⟨a, B, sI, pins, σ1, H1, cls, d, rfl, J, nb, (up.trans u3).trans u4, .inr (.inr (by rw [ks]; exact q4)), na, os, ag, w⟩
        first
          | exact wpAny_bind (wpAny_pure (wpAny_bind away))
          | exact wpAny_bind away
      | @cons x n c i ts b0 suite p p' cs3 l3 hc hi hl su r ih =>
        intro w
        obtain ⟨b, e1, yes, no⟩ := w
        refine wpAny_handleBy_cons (codeAny_handlers_test ?_) (by intro q; cases q)
        have LT : PySem.W.Looks (model Y.prog Y.w) g3 (typeOf (.ref a)) cls := fun A Q E s k q => wpAny_typeOf_ref (k _ _ at3) (by rw [z3.1]; exact q)
        have LM := PySem.W.exm_one (M := model Y.prog Y.w) (I3.kIn) LT e1
        have test : ∀ {Q : Value → Shared → Prop} {E : Value → Shared → Prop}, Q c { g with heap := g3 } → wpAny (model Y.prog Y.w) (Y.A.mark (some (.ref a))) (eval (.Name x p) Y.env) Q E { g with heap := g3 } := fun {Q E} q => by
          obtain ⟨hg, hdb, hm | ⟨hm, hv, hnn⟩⟩ := hc
          · exact ld_glob (X := Y.suite a ((a, o3) :: (Y.pn ++ pins))) T3 hg hm q hdb
          · exact ld_blt (X := Y.suite a ((a, o3) :: (Y.pn ++ pins))) T3 hg hm hv q hnn hdb
        refine test (LM.here ?_)
        cases b with
        | true =>
          refine codeAny_handlers_suite_as ?_
          refine HandSPX.lands_againZ f3 fun g4 f4 u4 => ?_
          have I4 : Inv Y pins σ1 H1 { g with heap := g4 } := J.landed nb f4.1 ((up.trans u3).trans u4) os ag
          obtain ⟨o4, w4, at4, z4, dt4⟩ := f4.there
          have T4 := I4.suite at4 dt4 na nL nF
          refine store_ok (X := Y.suite a ((a, o4) :: (Y.pn ++ pins))) (v := .ref a) T4 kN hi (.inl hl) rfl (fun u5 T5 => ?_) (.inr hl)
          refine wpAny_mono ((su a o4 cls d (Y.pn ++ pins) z4 ⟨_, dt4⟩).run [] u5 _ H1 _ T5 (yes rfl a na)) (fun f u6 q => ?_) (fun _ _ z => False.elim z)
          have fin : ∀ {σ6 : L2.St} {H6 : Hp} {Q : Shared → Prop}, Inv (Y.suite a ((a, o4) :: (Y.pn ++ pins))) [] σ6 H6 u6 → (∀ u7, Inv Y pins (σ6.set i none) H6 u7 → Q u7) →
              wpAny (model Y.prog Y.w) Y.A (do bindName Y.env n .none; unbindBehindTheSuite Y.env n p') (fun _ u7 => Q u7) Y.xe u6 := fun {σ6 H6 Q} T6 hq => gone_ok (T6.unsuite okY) kN hi hl hq
          cases f with
          | next =>
            obtain ⟨_, _, T6, q6⟩ := q
            exact fin T6 fun _ I7 => ⟨_, _, I7, q6⟩
          | brk =>
            obtain ⟨_, _, T6, q6⟩ := q
            exact fin T6 fun _ I7 => ⟨_, _, I7, q6⟩
          | cont =>
            obtain ⟨_, _, T6, q6⟩ := q
            exact fin T6 fun _ I7 => ⟨_, _, I7, q6⟩
          | ret v =>
            obtain ⟨_, _, _, T6, r6, q6⟩ := q
            exact fin T6 fun _ I7 => ⟨_, _, _, I7, r6, q6⟩
        | false =>
          show wpAny _ Y.A (handleBy (.ref a) Y.env cs3) _ _ _
          exact ih (no rfl)
    exact all kh w
  · cases f with
    | next =>
      obtain ⟨_, _, J1, q1⟩ := q
      exact wpAny_execs_nil ⟨_, _, J1.ofTry okY, q1⟩
    | brk =>
      obtain ⟨_, _, J1, q1⟩ := q
      exact ⟨_, _, J1.ofTry okY, q1⟩
    | cont =>
      obtain ⟨_, _, J1, q1⟩ := q
      exact ⟨_, _, J1.ofTry okY, q1⟩
    | ret v =>
      obtain ⟨_, _, _, J1, r1, q1⟩ := q
      exact ⟨_, _, _, J1.ofTry okY, r1, q1⟩
end Bx
/-! ### max of a tuple of ints, lcm: own rules -/
namespace MaxT
open PySem PySem.W PyProof.Rows
section
variable {prog : Program} {w : World} {A : Around} {E : Value → Shared → Prop} {s : Shared}
theorem walkT {l : Addr} {xs : Array (Int × Tok)} {Q : Value → Shared → Prop} (hh : A.handled = none) (ht : s.heap.IsTuple l (intItems xs)) (hne : 0 < xs.size)
    (h : ∀ v g tk, (intItems xs)[argBest (fun i j => decide (numAt xs i > numAt xs j)) (xs.size - 1)]? = some v → (∀ b o, s.heap.get? b = some o → g.get? b = some o) → Q v { s with heap := g, toks := tk }) :
    wpAny (model prog w) A (call (.builtin "max") [.ref l]) Q E s := by
  have ll : l < s.heap.objs.size := by
    obtain ⟨_, e, _⟩ := ht
    exact Heap.lt_size e
  refine call_max_walk (wpAny_pyIter_tuple ht ?_)
  refine ⟨_, _, _, _, _, _, _, rfl, Walks.tuple (A := A.in1) hh _ l (Nat.ne_of_lt ll) (intItems xs), ⟨⟨_, Heap.get?_push_size _ rfl, rfl, rfl⟩, ht.push _⟩, fun c hc => ?_, by simpa [intItems] using hne, CmpOf.ints_gt (numAt xs) (fun _ _ => intItems_at), fun v g tk hP hk => ?_⟩
  · show c < (s.heap.push _).objs.size
    rw [Heap.size_push]
    rcases List.mem_cons.mp hc with rfl | hc
    · exact Nat.lt_succ_self _
    · rcases List.mem_cons.mp hc with rfl | hc
      · exact Nat.lt_succ_of_lt ll
      · cases hc
  · refine h v g tk (by simpa [intItems] using hP) fun b o e => hk b o (fun hm => ?_) (Heap.get?_push_of_some _ e)
    have e1 : b = s.heap.objs.size := List.mem_singleton.mp hm
    rw [e1] at e
    exact absurd (Heap.lt_size e) (Nat.lt_irrefl _)
theorem rawT {l : Addr} {its : List Value} {ns : List Int} {Q : Value → Shared → Prop} (hh : A.handled = none) (hl : IsTup s.heap l its.toArray) (hi : IntsAre its ns) (hne : ns ≠ [])
    (h : ∀ (g : Heap) (tk : Nat) (m : Int) (t' : Tok), (∀ b o, s.heap.get? b = some o → g.get? b = some o) → m ∈ ns → (∀ y ∈ ns, y ≤ m) → Q (.int m t') { s with heap := g, toks := tk }) :
    wpAny (model prog w) A (call (.builtin "max") [.ref l]) Q E s := by
  obtain ⟨xs, e⟩ := hi.allInts.items
  have hn : numsOf (intItems xs).toList = ns := by rw [← e]; exact hi.numsOf
  rw [PySem.nums_intItems] at hn
  subst hn
  rw [e] at hl
  have c : 0 < xs.size := by
    rcases Nat.eq_zero_or_pos xs.size with z | z
    · refine absurd ?_ hne
      have : xs = #[] := Array.eq_empty_of_size_eq_zero z
      rw [this]
      rfl
    · exact z
  refine walkT hh hl c fun v g tk p1 keep => ?_
  obtain ⟨u, rfl⟩ := intItems_at p1
  obtain ⟨a1, a2⟩ := argBest_gt (numAt xs) (xs.size - 1)
  refine h g tk _ u keep ?_ fun y hy => ?_
  · rw [PySem.numAt_eq]
    refine PySem.getD_mem ?_
    rw [List.length_map, Array.length_toList]
    exact Nat.lt_of_le_of_lt a1 (by omega)
  · obtain ⟨j, hj, rfl⟩ := PySem.mem_getD hy
    rw [List.length_map, Array.length_toList] at hj
    rw [← PySem.numAt_eq]
    exact a2 j (by omega)
end
end MaxT
namespace Bx
open PySem PySem.Spec PyProof.Rows L2
def rMaxT (K : PySem.W.Frag) : List V → Hp → VK → Prop := fun xs H Q => ∃ (a : Addr) (ns : List Int), xs = [.ref a] ∧ SqT K H a (ns.map V.int) ∧ ns ≠ [] ∧ ∀ m, m ∈ ns → (∀ y ∈ ns, y ≤ m) → Q (.int m) H
theorem call_maxT {X : Cx} {K : PySem.W.Frag} (h : X.K = K) (hc : X.calm = true) : CallR X (.builtin "max") (rMaxT K) := by
  subst h
  intro pins s σ H xs us Q I r hw
  obtain ⟨a, ns, rfl, hs, hne, q⟩ := hw
  obtain ⟨its, rv, ht, _⟩ := I.tuple hs
  rw [Vals.ref1 r]
  exact MaxT.rawT (I.ok.hd hc) ht rv.ints hne fun g tk m t' hk h1 h2 => ⟨.int m, H, I.kept hk, ⟨_, rfl⟩, q m h1 h2⟩
theorem call_maxK {X : Cx} {K : PySem.W.Frag} (h : X.K = K) (hc : X.calm = true) : CallR X (.builtin "max") (rMax K) := by
  subst h
  exact cr_max hc
def spCheckX (cL : Addr) : Sp := fun vs H Q E => ∃ (p : Addr) (h l : List Int) (n : Int), vs = [.ref p, .int n] ∧ Las H p h l ∧ l ≠ [] ∧ h.length ≤ 1000 ∧ l.length ≤ 1000 ∧
  ((∃ x, (x ∈ h ∨ x ∈ l) ∧ n ≤ x) → ∀ H', Same H H' → E (.ref cL) none H') ∧ ((∀ x, x ∈ h ∨ x ∈ l → x < n) → ∀ H', Same H H' → Q .non H')
end Bx
/-! ### lists of lists, instances made in a try: own rules -/
namespace Bx
open PySem PySem.Spec PyProof.Rows L2
section
variable {X : Cx}
theorem pi_or {tg iter : Expr} {w1 w2 : TI} (h1 : PI X tg iter w1) (h2 : PI X tg iter w2) : PI X tg iter (fun σ H R => w1 σ H R ∨ w2 σ H R) := ⟨fun pins s σ H R I h => by
  rcases h with h | h
  · exact h1.run pins s σ H R I h
  · exact h2.run pins s σ H R I h⟩
theorem passF {P : Program} {w : World} : Passes (L2.CX P w) X (fun _ _ _ => False) := fun _ _ _ _ _ _ _ h => by
  obtain ⟨_, _, _, _, _, _, _, _, _, _, _, _, z⟩ := h
  exact z.elim
/-- a new instance of an own class whose __init__ may raise -/
structure MakX (P : Program) (w : World) (K : PySem.W.Frag) (mg : Str → Option Value) (base : Heap) (k : Nat) (x : Str) (C : Addr) (sp : Sp) : Prop where
  ex : ∃ (f : Addr) (fd : FuncData) (ps : List Str), Mk K C f ∧ FnOk P w K mg base (L2.CX P w) k f fd ps sp ∧ mg x = some (.ref C) ∧ Binds K fd ps []
def tMakX (C : Addr) (sp : Sp) (E : L2.St → XK) (t : TA) : TE := fun σ H Q => t σ H fun vs H1 => ∀ x dx, H1 x = none → H1 dx = none → dx ≠ x → sp (.ref x :: vs) (upd (upd H1 dx (.own x)) x (.ins C dx [])) (fun v H2 => v = .non ∧ Q (.ref x) H2) (E σ)
theorem made_at {k : Nat} {f C : Addr} {fd : FuncData} {ps : List Str} {sp : Sp} {E : XK} {pins : List (Addr × Obj)} {σ : L2.St} {H : Hp} {u : Shared} {Q : VK} {us : List Value} {vs : List V} (M : Mk X.K C f) (F : FnOk X.prog X.w X.K X.mg X.base (L2.CX X.prog X.w) k f fd ps sp) (hr : Room (k + 1) X.A) (hb : Binds X.K fd ps [])
    (hx : PassesAt (L2.CX X.prog X.w) X σ E) (I : Inv X pins σ H u) (r : Vals vs us)
    (h : ∀ x dx, H x = none → H dx = none → dx ≠ x → sp (.ref x :: vs) (upd (upd H dx (.own x)) x (.ins C dx [])) (fun v H2 => v = .non ∧ Q (.ref x) H2) E) :
    wpAny (model X.prog X.w) X.A (call (.ref C) us) (EP X pins σ Q) X.xe u := by
  have q0 := h (u.heap.objs.size + 1) u.heap.objs.size (I.hok.fresh (Nat.le_succ _)) (I.hok.fresh (Nat.le_refl _)) (Nat.ne_of_lt (Nat.lt_succ_self _))
  have J := Inv.made (C := C) I
  have r2 : Vals (V.ref (u.heap.objs.size + 1) :: vs) (Value.ref (u.heap.objs.size + 1) :: us) := .cons rfl r
  have hl : (Value.ref (u.heap.objs.size + 1) :: us ++ []).length = ps.length := by
    have e := r2.length
    rw [F.len _ _ _ _ q0] at e
    rw [List.append_nil]
    exact e.symm
  refine wpAny_call (make_map (f := f) I.kIn M.makes M.init (beq_iff_eq.mp M.fn) (codeAny_mono (F.run _ X.stack _ _ ⟨Value.ref (u.heap.objs.size + 1) :: us, []⟩ (Value.ref (u.heap.objs.size + 1) :: us) _ _ E (hr.make C us [])
    (J.env0.make C us []) (by have q := hb _ (Value.ref (u.heap.objs.size + 1) :: us) J.kIn hl; rw [List.append_nil] at q; exact q) r2 q0) fun r u' hq => ?_))
  cases r with
  | error e => exact hx pins _ _ e u' J hq
  | ok fl =>
    cases fl with
    | ret v =>
      obtain ⟨y, G, J3, ry, ey, qy⟩ := J.after hq
      subst ey
      exact ⟨ry, ⟨V.ref (u.heap.objs.size + 1), G, J3, rfl, qy⟩⟩
    | next => exact False.elim hq
    | brk => exact False.elim hq
    | cont => exact False.elim hq
theorem pe_makeX {k j : Nat} {C : Addr} {x : Str} {sp : Sp} {W : WX} {p pos : Pos} {e : Expr} {es : List Expr} {t : TA} (c : MakX X.prog X.w X.K X.mg X.base k x C sp) (hr : Room j X.A) (hk : k + 1 ≤ j) (tk : Takes X W) (hg : Gl X x) (ha : PA X (e :: es) t)
    (hdb : (x == ("__debug__" : Str)) = false := by decide) (he : starEach (e :: es) X.env = (false, eval e X.env) :: starEach es X.env := by rfl) (hpl : (backTo pos (starEach es X.env)).any (·.1) = false := by rfl) :
    PE X (.Call (.Name x p) (e :: es) [] pos) (tMakX C sp (WE W) t) := by
  obtain ⟨f, fd, ps, M, F, hm, b⟩ := c.ex
  refine ⟨fun pins u σ H Q I hw => ?_⟩
  refine wpAny_Call_Name_kw (ld_glob I hg hm ?_ hdb)
  refine PySem.W.callWith_K (h₀ := X.base) I.ok.mod.kin M.kp (thn (ha.run pos pins u σ H _ I hw) fun us u1 ⟨vs, H1, I1, rv, qv⟩ => ⟨I1.kIn, ?_⟩) he hpl
  exact made_at M F (hr.mono hk) b (passAt tk σ) I1 rv qv
theorem pe_makeN {k j : Nat} {C : Addr} {x : Str} {sp : Sp} {p pos : Pos} {e : Expr} {es : List Expr} {t : TA} (c : MakX X.prog X.w X.K X.mg X.base k x C sp) (hr : Room j X.A) (hk : k + 1 ≤ j) (hg : Gl X x) (ha : PA X (e :: es) t)
    (hdb : (x == ("__debug__" : Str)) = false := by decide) (he : starEach (e :: es) X.env = (false, eval e X.env) :: starEach es X.env := by rfl) (hpl : (backTo pos (starEach es X.env)).any (·.1) = false := by rfl) :
    PE X (.Call (.Name x p) (e :: es) [] pos) (tMakX C sp (fun _ => fun _ _ _ => False) t) := by
  obtain ⟨f, fd, ps, M, F, hm, b⟩ := c.ex
  refine ⟨fun pins u σ H Q I hw => ?_⟩
  refine wpAny_Call_Name_kw (ld_glob I hg hm ?_ hdb)
  refine PySem.W.callWith_K (h₀ := X.base) I.ok.mod.kin M.kp (thn (ha.run pos pins u σ H _ I hw) fun us u1 ⟨vs, H1, I1, rv, qv⟩ => ⟨I1.kIn, ?_⟩) he hpl
  exact made_at M F (hr.mono hk) b (fun pins G v e v' J q => passF pins σ G v e v' J q) I1 rv qv
end
/-! rows of ints -/
def RowsA (mk : List V → HO) (H : Hp) : List Addr → List (List Int) → Prop
  | [], [] => True
  | a :: as, r :: rs => H a = some (mk (r.map V.int)) ∧ RowsA mk H as rs
  | _, _ => False
def RowsQ (H : Hp) : List Addr → List (List Int) → Prop
  | [], [] => True
  | a :: as, r :: rs => SeqI H a r ∧ RowsQ H as rs
  | _, _ => False
theorem RowsA.keep {mk : List V → HO} {H H' : Hp} : ∀ {as : List Addr} {rs : List (List Int)}, (∀ b o, b ∈ as → H b = some o → H' b = some o) → RowsA mk H as rs → RowsA mk H' as rs
  | [], [], _, _ => True.intro
  | a :: as, r :: rs, k, h => ⟨k a _ List.mem_cons_self h.1, RowsA.keep (fun b o hb => k b o (List.mem_cons_of_mem _ hb)) h.2⟩
  | [], _ :: _, _, h => h.elim
  | _ :: _, [], _, h => h.elim
theorem RowsA.same {mk : List V → HO} {H H' : Hp} {as : List Addr} {rs : List (List Int)} (k : Same H H') (h : RowsA mk H as rs) : RowsA mk H' as rs := h.keep fun b o _ e => k b o e
theorem RowsA.len {mk : List V → HO} {H : Hp} : ∀ {as : List Addr} {rs : List (List Int)}, RowsA mk H as rs → as.length = rs.length
  | [], [], _ => rfl
  | a :: as, r :: rs, h => congrArg (· + 1) h.2.len
  | [], _ :: _, h => h.elim
  | _ :: _, [], h => h.elim
theorem RowsA.snoc {mk : List V → HO} {H : Hp} {a : Addr} {r : List Int} (ha : H a = some (mk (r.map V.int))) : ∀ {as : List Addr} {rs : List (List Int)}, RowsA mk H as rs → RowsA mk H (as ++ [a]) (rs ++ [r])
  | [], [], _ => ⟨ha, True.intro⟩
  | b :: as, q :: rs, h => ⟨h.1, h.2.snoc ha⟩
  | [], _ :: _, h => h.elim
  | _ :: _, [], h => h.elim
theorem RowsA.get {mk : List V → HO} {H : Hp} : ∀ {as : List Addr} {rs : List (List Int)} {i : Nat} {a : Addr}, RowsA mk H as rs → as[i]? = some a → ∃ r, rs[i]? = some r ∧ H a = some (mk (r.map V.int))
  | [], _, _, _, _, e => by simp at e
  | b :: as, [], _, _, h, _ => h.elim
  | b :: as, q :: rs, 0, a, h, e => by
    have : b = a := Option.some.inj e
    subst this
    exact ⟨q, rfl, h.1⟩
  | b :: as, q :: rs, i + 1, a, h, e => RowsA.get (i := i) h.2 e
theorem RowsA.q1 {H : Hp} : ∀ {as : List Addr} {rs : List (List Int)}, RowsA .lst H as rs → RowsQ H as rs
  | [], [], _ => True.intro
  | a :: as, r :: rs, h => ⟨.inl h.1, h.2.q1⟩
  | [], _ :: _, h => h.elim
  | _ :: _, [], h => h.elim
theorem RowsA.q2 {H : Hp} : ∀ {as : List Addr} {rs : List (List Int)}, RowsA .tup H as rs → RowsQ H as rs
  | [], [], _ => True.intro
  | a :: as, r :: rs, h => ⟨.inr h.1, h.2.q2⟩
  | [], _ :: _, h => h.elim
  | _ :: _, [], h => h.elim
theorem RowsQ.same {H H' : Hp} (k : Same H H') : ∀ {as : List Addr} {rs : List (List Int)}, RowsQ H as rs → RowsQ H' as rs
  | [], [], _ => True.intro
  | a :: as, r :: rs, h => ⟨h.1.same k, h.2.same k⟩
  | [], _ :: _, h => h.elim
  | _ :: _, [], h => h.elim
theorem RowsQ.len {H : Hp} : ∀ {as : List Addr} {rs : List (List Int)}, RowsQ H as rs → as.length = rs.length
  | [], [], _ => rfl
  | a :: as, r :: rs, h => congrArg (· + 1) h.2.len
  | [], _ :: _, h => h.elim
  | _ :: _, [], h => h.elim
theorem RowsQ.get {H : Hp} : ∀ {as : List Addr} {rs : List (List Int)} {i : Nat} {a : Addr}, RowsQ H as rs → as[i]? = some a → ∃ r, rs[i]? = some r ∧ SeqI H a r
  | [], _, _, _, _, e => by simp at e
  | b :: as, [], _, _, h, _ => h.elim
  | b :: as, q :: rs, 0, a, h, e => by
    have : b = a := Option.some.inj e
    subst this
    exact ⟨q, rfl, h.1⟩
  | b :: as, q :: rs, i + 1, a, h, e => RowsQ.get (i := i) h.2 e
/-- a list or a tuple of any values -/
def SeqV (H : Hp) (a : Addr) (xs : List V) : Prop := H a = some (.lst xs) ∨ H a = some (.tup xs)
theorem SeqV.same {H H' : Hp} {a : Addr} {xs : List V} (k : Same H H') (h : SeqV H a xs) : SeqV H' a xs := by
  rcases h with h | h
  · exact .inl (k _ _ h)
  · exact .inr (k _ _ h)
theorem SeqV.sq {K : PySem.W.Frag} {H : Hp} {a : Addr} {xs : List V} (h : SeqV H a xs) : SqL K H a xs ∨ SqT K H a xs := by
  rcases h with h | h
  · exact .inl (.of h)
  · exact .inr (.of h)
def iSeq (K : PySem.W.Frag) (te : TE) : TI := fun σ H R => iList K te σ H R ∨ iTup K te σ H R
theorem pi_listK {X : Cx} {K : PySem.W.Frag} {tg e : Expr} {te : TE} (h : X.K = K) (he : PE X e te) : PI X tg e (iList K te) := by
  subst h
  exact pi_list he
theorem pi_tupK {X : Cx} {K : PySem.W.Frag} {tg e : Expr} {te : TE} (h : X.K = K) (he : PE X e te) : PI X tg e (iTup K te) := by
  subst h
  exact pi_tup he
theorem pi_seq {X : Cx} {K : PySem.W.Frag} {tg e : Expr} {te : TE} (h : X.K = K) (he : PE X e te) : PI X tg e (iSeq K te) := by
  subst h
  exact pi_or (pi_list he) (pi_tup he)
theorem for_seq {K : PySem.W.Frag} {i : Nat} {a : Addr} {xs : List V} {g : TG} {tb : TS} {D : Ends} {σ : L2.St} {H : Hp} (hv : σ[i]? = some (some (.ref a))) (hq : SeqV H a xs) (Pv : Nat → L2.St → Hp → Prop) (h0 : Pv 0 σ H) (hS : ∀ i σ' H', Pv i σ' H' → Same H H')
    (hs : ∀ i x σ H, xs[i]? = some x → Pv i σ H → g x σ H fun σ2 H2 => tb { D with nx := Pv (i + 1), ct := Pv (i + 1), bk := D.nx } σ2 H2) (hd : ∀ σ H, Pv xs.length σ H → D.nx σ H) : tFor (iSeq K (tVar i)) g tb D σ H := by
  rcases hq with h | h
  · exact .inl ⟨_, hv, a, rfl, ⟨_, .of h⟩, for_list Pv h0 (fun i σ' H' _ p => .of (hS i σ' H' p _ _ h)) hs hd⟩
  · exact .inr ⟨_, hv, a, rfl, ⟨_, .of h⟩, for_tup Pv h0 (fun i σ' H' _ p => .of (hS i σ' H' p _ _ h)) hs hd⟩
/-- a list of lists of ints -/
def LL (H : Hp) (r : Addr) (as : List Addr) (rows : List (List Int)) : Prop := H r = some (.lst (as.map V.ref)) ∧ RowsA .lst H as rows
def Vld (L s : Int) (ps : List Int) (rows : List (List Int)) : Prop := 1 ≤ L ∧ rows ≠ [] ∧ ps.length = rows.length ∧ (0 ≤ s ∧ s < (rows.length : Int)) ∧ (∀ r ∈ rows, (r.length : Int) = L ∧ ∀ x ∈ r, 0 ≤ x ∧ x < (rows.length : Int)) ∧ ∀ p ∈ ps, 0 ≤ p
/-- the fields of a parity automaton, as they are stored -/
def pf (L s : Int) (pt rt : Addr) : List (Str × V) := putF "rows" (.ref rt) (putF "priorities" (.ref pt) (putF "start" (.int s) (putF "letters" (.int L) [])))
theorem putF_len (f : Str) (v : V) : ∀ fs : List (Str × V), (putF f v fs).length ≤ fs.length + 1
  | [] => Nat.le_refl _
  | (g, x) :: r => by
    unfold putF
    by_cases c : g = f
    · rw [if_pos c]
      exact Nat.le_succ _
    · rw [if_neg c]
      exact Nat.succ_le_succ (putF_len f v r)
theorem pf_L (L s : Int) (pt rt : Addr) : (pf L s pt rt).lookup ("letters" : Str) = some (.int L) := by
  unfold pf
  rw [lookup_putF, if_neg (by decide +kernel), lookup_putF, if_neg (by decide +kernel), lookup_putF, if_neg (by decide +kernel), lookup_putF, if_pos rfl]
theorem pf_s (L s : Int) (pt rt : Addr) : (pf L s pt rt).lookup ("start" : Str) = some (.int s) := by
  unfold pf
  rw [lookup_putF, if_neg (by decide +kernel), lookup_putF, if_neg (by decide +kernel), lookup_putF, if_pos rfl]
theorem pf_p (L s : Int) (pt rt : Addr) : (pf L s pt rt).lookup ("priorities" : Str) = some (.ref pt) := by
  unfold pf
  rw [lookup_putF, if_neg (by decide +kernel), lookup_putF, if_pos rfl]
theorem pf_r (L s : Int) (pt rt : Addr) : (pf L s pt rt).lookup ("rows" : Str) = some (.ref rt) := by
  unfold pf
  rw [lookup_putF, if_pos rfl]
/-- a parity automaton at x -/
def ParAt (C : Addr) (H : Hp) (x : Addr) (L s : Int) (ps : List Int) (rows : List (List Int)) : Prop := ∃ (dx pt rt : Addr) (as : List Addr), H x = some (.ins C dx (pf L s pt rt)) ∧ TupI H pt ps ∧ H rt = some (.tup (as.map V.ref)) ∧ RowsA .tup H as rows
theorem ParAt.same {C : Addr} {H H' : Hp} {x : Addr} {L s : Int} {ps : List Int} {rows : List (List Int)} (k : Same H H') (h : ParAt C H x L s ps rows) : ParAt C H' x L s ps rows := by
  obtain ⟨dx, pt, rt, as, e1, e2, e3, e4⟩ := h
  exact ⟨dx, pt, rt, as, k _ _ e1, k _ _ e2, k _ _ e3, e4.same k⟩
/-- what the class has -/
structure ParC (K : PySem.W.Frag) (C : Addr) : Prop where
  cl : Cls K C
  nL : NoAttr K C "letters"
  nS : NoAttr K C "start"
  nP : NoAttr K C "priorities"
  nR : NoAttr K C "rows"
def spCheckS (cI : Addr) : Sp := fun vs H Q E => ∃ (z n : Int), vs = [.int z, .int n] ∧ (¬ (0 ≤ z ∧ z < n) → E (.ref cI) none H) ∧ ((0 ≤ z ∧ z < n) → Q .non H)
def spInitP (C cI : Addr) : Sp := fun vs H Q E => ∃ (x p r dx : Addr) (L s : Int) (ps : List Int) (as : List Addr) (rows : List (List Int)), vs = [.ref x, .int L, .int s, .ref p, .ref r] ∧ H x = some (.ins C dx []) ∧ H p = some (.lst (ps.map V.int)) ∧ SeqV H r (as.map V.ref) ∧ RowsQ H as rows ∧
  rows.length ≤ 1000 ∧ ps.length ≤ 1000 ∧ (∀ q ∈ rows, q.length ≤ 1000) ∧ (¬ Vld L s ps rows → E (.ref cI) none H) ∧ (Vld L s ps rows → ∀ H', Kp x H H' → ParAt C H' x L s ps rows → Q .non H')
end Bx
namespace Bx
open PySem PySem.Spec PyProof.Rows L2
theorem lc_seq {K : PySem.W.Frag} {i : Nat} {a : Addr} {xs : List V} {g : TG} {tt : TT} {te : TE} {vs : List Nat} {σ : L2.St} {H : Hp} {Q : VK} (hv : σ[i]? = some (some (.ref a))) (hq : SeqV H a xs) (Pv : Addr → Nat → Hp → Prop) (h0 : ∀ D, H D = none → Pv D 0 (upd H D (.lst [])))
    (hS : ∀ D j H', H D = none → Pv D j H' → Same H H')
    (hs : ∀ D, H D = none → ∀ i x H', xs[i]? = some x → Pv D i H' → g x (wipe σ vs) H' fun σ2 H2 => wipe σ2 vs = wipe σ vs ∧ tt σ2 H2 fun b H3 => if b = true then te σ2 H3 fun y H4 => ∃ acc, H4 D = some (.lst acc) ∧ acc.length < sizeLine ∧ Pv D (i + 1) (upd H4 D (.lst (acc ++ [y]))) else Pv D (i + 1) H3)
    (hd : ∀ D H', H D = none → Pv D xs.length H' → Q (.ref D) H') : tLc (iSeq K (tVar i)) g tt te vs σ H Q := by
  rcases hq with h | h
  · exact .inl ⟨_, hv, a, rfl, ⟨_, .of h⟩, fun D hD => lc_list (Pv D) (h0 D hD) (fun i H' _ p => .of (hS D i H' hD p _ _ h)) (hs D hD) (fun H' p => hd D H' hD p)⟩
  · exact .inr ⟨_, hv, a, rfl, ⟨_, .of h⟩, fun D hD => lc_tup (Pv D) (h0 D hD) (fun i H' _ p => .of (hS D i H' hD p _ _ h)) (hs D hD) (fun H' p => hd D H' hD p)⟩
theorem rowsUpd {H : Hp} {x : Addr} {o : HO} (hx : ∀ ys, H x ≠ some (.tup ys)) : ∀ {as : List Addr} {rs : List (List Int)}, RowsA .tup H as rs → RowsA .tup (upd H x o) as rs
  | [], [], _ => True.intro
  | a :: as, r :: rs, h => ⟨by
      have h1 := h.1
      rw [upd_ne (fun z => by rw [z] at h1; exact hx _ h1)]
      exact h1, rowsUpd hx h.2⟩
  | [], _ :: _, h => h.elim
  | _ :: _, [], h => h.elim
theorem refs_get {as : List Addr} {i : Nat} {v : V} (h : (as.map V.ref)[i]? = some v) : ∃ a, as[i]? = some a ∧ v = .ref a := by
  rw [List.getElem?_map] at h
  cases e : as[i]? with
  | none => rw [e] at h; cases h
  | some z => rw [e] at h; exact ⟨z, rfl, (Option.some.inj h).symm⟩
theorem ints_get {xs : List Int} {i : Nat} {v : V} (h : (xs.map V.int)[i]? = some v) : ∃ x, xs[i]? = some x ∧ v = .int x := by
  rw [List.getElem?_map] at h
  cases e : xs[i]? with
  | none => rw [e] at h; cases h
  | some z => rw [e] at h; exact ⟨z, rfl, (Option.some.inj h).symm⟩
theorem take_get {α : Type} {xs : List α} {i : Nat} {x : α} (h : xs[i]? = some x) : xs.take (i + 1) = xs.take i ++ [x] := by
  rw [List.take_add_one, h]
  rfl
theorem pl_next {f : Str} {v : V} {fs : List (Str × V)} {n : Nat} (h : fs.length ≤ n) : (putF f v fs).length ≤ n + 1 := Nat.le_trans (putF_len f v fs) (Nat.succ_le_succ h)
theorem pl_lt {fs : List (Str × V)} {n : Nat} (h : fs.length ≤ n) (k : n < 1000) : fs.length < 1000 := Nat.lt_of_le_of_lt h k
theorem pl_0 : ([] : List (Str × V)).length ≤ 0 := Nat.le_refl _
theorem fld_def {Kf : PySem.W.Frag} {ta tv : TE} {f : Str} {D : Ends} {σ : L2.St} {H : Hp} (h : tv σ H fun y H1 => ta σ H1 fun x H2 => ∃ a C dx fs, x = .ref a ∧ H2 a = some (.ins C dx fs) ∧ Cls Kf C ∧ NoAttr Kf C f ∧ fs.length < 1000 ∧ D.nx σ (upd H2 a (.ins C dx (putF f y fs)))) : sFld Kf ta tv f D σ H := h
theorem cb1_def {r : List V → Hp → VK → Prop} {te : TE} {σ : L2.St} {H : Hp} {Q : VK} (h : te σ H fun v H1 => r [v] H1 Q) : tCB r (tCons te tNil) σ H Q := h
theorem rows_some {mk : List V → HO} {H : Hp} : ∀ {as : List Addr} {rs : List (List Int)} {a : Addr}, RowsA mk H as rs → a ∈ as → ∃ o, H a = some o
  | [], _, _, _, h => by simp at h
  | b :: as, [], _, h, _ => h.elim
  | b :: as, r :: rs, a, h, m => by
    rcases List.mem_cons.mp m with z | z
    · rw [z]
      exact ⟨_, h.1⟩
    · exact rows_some h.2 z
theorem LL.same {H H' : Hp} {r : Addr} {as : List Addr} {rows : List (List Int)} (k : Same H H') (h : LL H r as rows) : LL H' r as rows := ⟨k _ _ h.1, h.2.same k⟩
def exS (d : Scope) : Expr → Scope
  | .ListComp _ _ s _ => s
  | .Call _ (.ListComp _ _ s _ :: _) _ _ => s
  | _ => d
def stS (d : Scope) (i : Nat) (b : List Stmt) : Scope := match b[i]? with
  | some (.Return (some e) _) => exS d e
  | some (.Assign _ e _) => exS d e
  | _ => d
/-- ascending numbers below n -/
def Asc (n : Int) (xs : List Int) : Prop := xs.Pairwise (· < ·) ∧ ∀ x ∈ xs, 0 ≤ x ∧ x < n
/-- rows of rows of ints -/
def CubB (mk : List V → HO) (H : Hp) : List Addr → List (List Addr) → List (List (List Int)) → Prop
  | [], [], [] => True
  | a :: as, bs :: bss, r :: rs => (H a = some (mk (bs.map V.ref)) ∧ RowsA mk H bs r) ∧ CubB mk H as bss rs
  | _, _, _ => False
theorem cub_keep {mk : List V → HO} {H H' : Hp} : ∀ {as : List Addr} {bss : List (List Addr)} {c : List (List (List Int))}, (∀ b o, (b ∈ as ∨ ∃ bs ∈ bss, b ∈ bs) → H b = some o → H' b = some o) → CubB mk H as bss c → CubB mk H' as bss c
  | [], [], [], _, _ => True.intro
  | a :: as, bs :: bss, r :: rs, k, h => ⟨⟨k a _ (.inl List.mem_cons_self) h.1.1, h.1.2.keep fun b o hb => k b o (.inr ⟨bs, List.mem_cons_self, hb⟩)⟩, cub_keep (fun b o hb => k b o (by
      rcases hb with z | ⟨q, z, y⟩
      · exact .inl (List.mem_cons_of_mem _ z)
      · exact .inr ⟨q, List.mem_cons_of_mem _ z, y⟩)) h.2⟩
  | [], [], _ :: _, _, h => h.elim
  | [], _ :: _, _, _, h => h.elim
  | _ :: _, [], _, _, h => h.elim
  | _ :: _, _ :: _, [], _, h => h.elim
theorem cub_same {mk : List V → HO} {H H' : Hp} {as : List Addr} {bss : List (List Addr)} {c : List (List (List Int))} (s : Same H H') (h : CubB mk H as bss c) : CubB mk H' as bss c := cub_keep (fun b o _ e => s b o e) h
theorem cub_len {mk : List V → HO} {H : Hp} : ∀ {as : List Addr} {bss : List (List Addr)} {c : List (List (List Int))}, CubB mk H as bss c → as.length = c.length ∧ bss.length = c.length
  | [], [], [], _ => ⟨rfl, rfl⟩
  | a :: as, bs :: bss, r :: rs, h => ⟨congrArg (· + 1) (cub_len h.2).1, congrArg (· + 1) (cub_len h.2).2⟩
  | [], [], _ :: _, h => h.elim
  | [], _ :: _, _, h => h.elim
  | _ :: _, [], _, h => h.elim
  | _ :: _, _ :: _, [], h => h.elim
theorem cub_snoc {mk : List V → HO} {H : Hp} {a : Addr} {bs : List Addr} {r : List (List Int)} (h1 : H a = some (mk (bs.map V.ref))) (h2 : RowsA mk H bs r) : ∀ {as : List Addr} {bss : List (List Addr)} {c : List (List (List Int))}, CubB mk H as bss c → CubB mk H (as ++ [a]) (bss ++ [bs]) (c ++ [r])
  | [], [], [], _ => ⟨⟨h1, h2⟩, True.intro⟩
  | b :: as, cs :: bss, q :: rs, h => ⟨h.1, cub_snoc h1 h2 h.2⟩
  | [], [], _ :: _, h => h.elim
  | [], _ :: _, _, h => h.elim
  | _ :: _, [], _, h => h.elim
  | _ :: _, _ :: _, [], h => h.elim
theorem cub_get {mk : List V → HO} {H : Hp} : ∀ {as : List Addr} {bss : List (List Addr)} {c : List (List (List Int))} {i : Nat} {a : Addr}, CubB mk H as bss c → as[i]? = some a → ∃ bs r, bss[i]? = some bs ∧ c[i]? = some r ∧ H a = some (mk (bs.map V.ref)) ∧ RowsA mk H bs r
  | [], _, _, _, _, _, e => by simp at e
  | a :: as, bs :: bss, r :: rs, 0, b, h, e => by
    have : a = b := Option.some.inj e
    subst this
    exact ⟨bs, r, rfl, rfl, h.1.1, h.1.2⟩
  | a :: as, bs :: bss, r :: rs, i + 1, b, h, e => cub_get (i := i) h.2 e
  | _ :: _, [], _, _, _, h, _ => h.elim
  | _ :: _, _ :: _, [], _, _, h, _ => h.elim
theorem cub_some {mk : List V → HO} {H : Hp} : ∀ {as : List Addr} {bss : List (List Addr)} {c : List (List (List Int))} {b : Addr}, CubB mk H as bss c → (b ∈ as ∨ ∃ bs ∈ bss, b ∈ bs) → ∃ o, H b = some o
  | [], [], _, _, _, h => by
    rcases h with h | ⟨_, h, _⟩
    · simp at h
    · simp at h
  | a :: as, bs :: bss, r :: rs, b, h, m => by
    rcases m with m | ⟨q, m, y⟩
    · rcases List.mem_cons.mp m with z | z
      · rw [z]; exact ⟨_, h.1.1⟩
      · exact cub_some h.2 (.inl z)
    · rcases List.mem_cons.mp m with z | z
      · rw [z] at y; exact rows_some h.1.2 y
      · exact cub_some h.2 (.inr ⟨q, z, y⟩)
  | [], _ :: _, _, _, h, _ => h.elim
  | _ :: _, [], _, _, h, _ => h.elim
  | _ :: _, _ :: _, [], _, h, _ => h.elim
/-- an object that is not one of the rows may change -/
theorem cub_tup {H : Hp} {x : Addr} {o : HO} (hx : ∀ ys, H x ≠ some (.tup ys)) : ∀ {as : List Addr} {bss : List (List Addr)} {c : List (List (List Int))}, CubB .tup H as bss c → CubB .tup (upd H x o) as bss c
  | [], [], [], _ => True.intro
  | a :: as, bs :: bss, r :: rs, h => ⟨⟨by
      have h1 := h.1.1
      rw [upd_ne (fun z => by rw [z] at h1; exact hx _ h1)]
      exact h1, rowsUpd hx h.1.2⟩, cub_tup hx h.2⟩
  | [], [], _ :: _, h => h.elim
  | [], _ :: _, _, h => h.elim
  | _ :: _, [], _, h => h.elim
  | _ :: _, _ :: _, [], h => h.elim
theorem rows_kp {mk : List V → HO} {H H' : Hp} {x : Addr} (hx : ∀ ys, H x ≠ some (mk ys)) (k : Kp x H H') : ∀ {as : List Addr} {rs : List (List Int)}, RowsA mk H as rs → RowsA mk H' as rs
  | [], [], _ => True.intro
  | a :: as, r :: rs, h => ⟨k _ _ (fun z => by have h1 := h.1; rw [z] at h1; exact hx _ h1) h.1, rows_kp hx k h.2⟩
  | [], _ :: _, h => h.elim
  | _ :: _, [], h => h.elim
theorem cub_kp {mk : List V → HO} {H H' : Hp} {x : Addr} (hx : ∀ ys, H x ≠ some (mk ys)) (k : Kp x H H') : ∀ {as : List Addr} {bss : List (List Addr)} {c : List (List (List Int))}, CubB mk H as bss c → CubB mk H' as bss c
  | [], [], [], _ => True.intro
  | a :: as, bs :: bss, r :: rs, h => ⟨⟨k _ _ (fun z => by have h1 := h.1.1; rw [z] at h1; exact hx _ h1) h.1.1, rows_kp hx k h.1.2⟩, cub_kp hx k h.2⟩
  | [], [], _ :: _, h => h.elim
  | [], _ :: _, _, h => h.elim
  | _ :: _, [], _, h => h.elim
  | _ :: _, _ :: _, [], h => h.elim
def bf (L : Int) (it at_ rt : Addr) : List (Str × V) := putF "rows" (.ref rt) (putF "accepting" (.ref at_) (putF "initial" (.ref it) (putF "letters" (.int L) [])))
theorem bf_L (L : Int) (a b c : Addr) : (bf L a b c).lookup ("letters" : Str) = some (.int L) := by
  unfold bf
  rw [lookup_putF, if_neg (by decide +kernel), lookup_putF, if_neg (by decide +kernel), lookup_putF, if_neg (by decide +kernel), lookup_putF, if_pos rfl]
theorem bf_i (L : Int) (a b c : Addr) : (bf L a b c).lookup ("initial" : Str) = some (.ref a) := by
  unfold bf
  rw [lookup_putF, if_neg (by decide +kernel), lookup_putF, if_neg (by decide +kernel), lookup_putF, if_pos rfl]
theorem bf_a (L : Int) (a b c : Addr) : (bf L a b c).lookup ("accepting" : Str) = some (.ref b) := by
  unfold bf
  rw [lookup_putF, if_neg (by decide +kernel), lookup_putF, if_pos rfl]
theorem bf_r (L : Int) (a b c : Addr) : (bf L a b c).lookup ("rows" : Str) = some (.ref c) := by
  unfold bf
  rw [lookup_putF, if_pos rfl]
def AutAt (C : Addr) (H : Hp) (x : Addr) (L : Int) (ini acc : List Int) (c : List (List (List Int))) : Prop := ∃ (dx it at_ rt : Addr) (as : List Addr) (bss : List (List Addr)), H x = some (.ins C dx (bf L it at_ rt)) ∧ TupI H it ini ∧ TupI H at_ acc ∧ H rt = some (.tup (as.map V.ref)) ∧ CubB .tup H as bss c
theorem aut_same {C : Addr} {H H' : Hp} {x : Addr} {L : Int} {ini acc : List Int} {c : List (List (List Int))} (k : Same H H') (h : AutAt C H x L ini acc c) : AutAt C H' x L ini acc c := by
  obtain ⟨dx, it, at_, rt, as, bss, e1, e2, e3, e4, e5⟩ := h
  exact ⟨dx, it, at_, rt, as, bss, k _ _ e1, k _ _ e2, k _ _ e3, k _ _ e4, cub_same k e5⟩
structure AutC (K : PySem.W.Frag) (C : Addr) : Prop where
  cl : Cls K C
  nL : NoAttr K C "letters"
  nI : NoAttr K C "initial"
  nA : NoAttr K C "accepting"
  nR : NoAttr K C "rows"
  c1 : PySem.W.findIn K (.ref C) "__class__" = some (some (.builtin "object.__class__"))
  c2 : PySem.W.specialIn K (.builtin "object.__class__") "__get__" = some (some (.builtin "getset_descriptor.__get__"))
  c3 : PySem.W.takesIn K (.builtin "object.__class__") = some true
  c4 : PySem.W.mroIn K C (.type "object") = some true
  c5 : PySem.W.kitOne K (.ref C) (.ref C) = some true
def VldB (L : Int) (ini acc : List Int) (c : List (List (List Int))) : Prop := 1 ≤ L ∧ c ≠ [] ∧ Asc c.length ini ∧ Asc c.length acc ∧ ∀ r ∈ c, (r.length : Int) = L ∧ ∀ e ∈ r, Asc c.length e
/-- a list of lists of lists -/
def LC (H : Hp) (r : Addr) (as : List Addr) (bss : List (List Addr)) (c : List (List (List Int))) : Prop := H r = some (.lst (as.map V.ref)) ∧ CubB .lst H as bss c
def spChecks (cI : Addr) : Sp := fun vs H Q E => ∃ (a : Addr) (xs : List Int) (n : Int), vs = [.ref a, .int n] ∧ H a = some (.lst (xs.map V.int)) ∧ (¬ Asc n xs → E (.ref cI) none H) ∧ (Asc n xs → Q .non H)
def spInitB (C cI : Addr) : Sp := fun vs H Q E => ∃ (x i a r dx : Addr) (L : Int) (ini acc : List Int) (as : List Addr) (bss : List (List Addr)) (c : List (List (List Int))), vs = [.ref x, .int L, .ref i, .ref a, .ref r] ∧ H x = some (.ins C dx []) ∧ H i = some (.lst (ini.map V.int)) ∧ H a = some (.lst (acc.map V.int)) ∧ LC H r as bss c ∧
  c.length ≤ 1000 ∧ (∀ r ∈ c, r.length ≤ 1000) ∧ (¬ VldB L ini acc c → E (.ref cI) none H) ∧ (VldB L ini acc c → ∀ H', Kp x H H' → AutAt C H' x L ini acc c → Q .non H')
end Bx

/-! ### own rules: a list extended by a tuple; a tuple's slice with a step -/
namespace Tx
open PySem PySem.Spec PyProof.Rows L2
section
variable {prog : Program} {w : World} {A : Around} {E : Value → Shared → Prop} {s : Shared}
set_option maxRecDepth 8000 in
theorem ext_tup (l b : Addr) (xs ys : Array Value) (n m : Nat) (dd : Option Addr) (sl : Array (Option Value)) (h0 : ¬(!xs.isEmpty && Builtin.List.listTooLong (xs.size + ys.size)) = true) (h1 : xs.size ≤ sizeLine) (h2 : xs.size + ys.size ≤ sizeLine + 1) :
    Meets (Builtin.«list.extend» ⟨[.ref l, .ref b], []⟩) (fun _ R s => s.heap.get? l = some { cls := .type "list", data := .seq xs n } ∧ s.heap.get? b = some { cls := .type "tuple", dict := dd, data := .seq ys m, slots := sl } ∧
      R (.ok (.ret Value.none)) { s with heap := s.heap.update l (Obj.mapSeq fun x => x ++ ys), toks := s.toks }) := .of_wp fun prog w A R s h => by
  obtain ⟨hp, g, d, tk, os⟩ := s
  obtain ⟨hl, hb, h⟩ := h
  have q1 := AutoSeq1.idx_int
  have q2 := AutoSeq1.sub_tuple_tuple
  have q3 := AutoSeq1.sub_list_list
  have q4 := AutoSeq1.sub_tuple_list
  have q5 := AutoSeq1.sub_list_tuple
  have hz : (xs ++ ys).size ≤ sizeLine + 1 := by
    rw [Array.size_append]
    exact h2
  wp_walk using (wpAny_updateSeq hl rfl (hz := h1) (_hz' := hz)), AutoSeq1.wpAny_loadPart' hl, AutoSeq1.wpAny_loadPart' hb
  exact ⟨_, rfl, h⟩
end
section
variable {X : Cx} {K : PySem.W.Frag}
def rExtT (K : PySem.W.Frag) : V → List V → Hp → VK → Prop := fun x vs H Q => ∃ l b xs zs, x = .ref l ∧ vs = [.ref b] ∧ H l = some (.lst xs) ∧ SqT K H b zs ∧ xs.length + zs.length ≤ sizeLine ∧ Q .non (upd H l (.lst (xs ++ zs)))
theorem mt_extT (hK : X.K = K) : MtM X "list.extend" (rExtT K) := by
  subst hK
  intro pins s σ H x vs v us Q I rx rv ⟨l, b, xs, zs, ex, ev, hH, hB, hz, q⟩
  subst ex
  subst ev
  cases rx
  obtain ⟨u, rfl, ru⟩ := rv.one
  cases ru
  obtain ⟨z, its, n, r, hl, e⟩ := I.lstM hH
  obtain ⟨its2, r2, ⟨⟨oc, od, ob, os⟩, e2, ec, m, eb⟩, z2⟩ := I.tuple hB
  have hl2 := r2.length
  dsimp only at ec eb
  subst ec
  subst eb
  have hs : its.toArray.size + its2.toArray.size ≤ sizeLine := by
    rw [List.size_toArray, List.size_toArray]
    omega
  refine call_meets F.slot_list_extend ⟨_, e, rfl⟩ F.entry_list_extend (F.args_list_extend_2 _ _) (ext_tup l b its.toArray its2.toArray n m od os (fun c => ?_) (by omega) (by omega)) ⟨e, e2, ?_⟩
  · rw [notLongL hs, Bool.and_false] at c
    cases c
  · refine ⟨.non, _, I.lset (its' := its ++ its2) hH e (by simp) (r.append r2) ?_, rfl, q⟩
    rw [List.length_append]
    omega
/-- the items that a slice with a step picks -/
def pk3 {α : Type} (xs : List α) (lo hi : Option Int) (c : Int) : List α :=
  (List.range (Builtin.Slice.slicePlaces (Builtin.Slice.sliceAdjust lo hi c xs.length).1 (Builtin.Slice.sliceAdjust lo hi c xs.length).2 c)).filterMap fun (k : Nat) => xs[((Builtin.Slice.sliceAdjust lo hi c xs.length).1 + (k : Int) * c).toNat]?
theorem pk3_vals {xs : List V} {us : List Value} (r : Vals xs us) (lo hi : Option Int) (c : Int) : Vals (pk3 xs lo hi c) (pk3 us lo hi c) := by
  unfold pk3
  rw [r.length]
  generalize List.range (Builtin.Slice.slicePlaces (Builtin.Slice.sliceAdjust lo hi c us.length).1 (Builtin.Slice.sliceAdjust lo hi c us.length).2 c) = ks
  generalize (Builtin.Slice.sliceAdjust lo hi c us.length).1 = b
  induction ks with
  | nil => exact .nil
  | cons k ks ih =>
    rw [List.filterMap_cons, List.filterMap_cons]
    cases e : xs[(b + (k : Int) * c).toNat]? with
    | none =>
      have : us[(b + (k : Int) * c).toNat]? = none := by
        rw [List.getElem?_eq_none_iff] at e ⊢
        rw [← r.length]
        exact e
      rw [this]
      exact ih
    | some x =>
      obtain ⟨u, e2, ru⟩ := Vals.get r e
      rw [e2]
      exact .cons ru ih
theorem pk3_len {α : Type} (xs : List α) (lo hi : Option Int) (c : Int) : (pk3 xs lo hi c).length ≤ Builtin.Slice.slicePlaces (Builtin.Slice.sliceAdjust lo hi c xs.length).1 (Builtin.Slice.sliceAdjust lo hi c xs.length).2 c := by
  unfold pk3
  refine Nat.le_trans (List.length_filterMap_le _ _) ?_
  rw [List.length_range]
  exact Nat.le_refl _
end
section
variable {prog : Program} {w : World} {A : Around} {E : Value → Shared → Prop} {s : Shared}
theorem applied3 {sl : Addr} {vl vu vs : Value} {lo hi : Option Int} {c : Int} {n : Nat} {Q : Int × Int × Nat → Shared → Prop} (hs : s.heap.IsSliceOf sl vl vu vs) (pl : IsPart vl lo) (pu : IsPart vu hi) (ps : IsPart vs (some c)) (hc : c ≠ 0)
    (h : Q ((Builtin.Slice.sliceAdjust lo hi c n).1, c, Builtin.Slice.slicePlaces (Builtin.Slice.sliceAdjust lo hi c n).1 (Builtin.Slice.sliceAdjust lo hi c n).2 c) s) :
    wpAny (model prog w) A (Builtin.Slice.sliceApplied (.ref sl) (pure (n : Int))) Q E s := by
  obtain ⟨ob, g1, _, g3⟩ := id hs
  unfold Builtin.Slice.sliceApplied Builtin.Slice.sliceFields
  refine wpAny_bind (wpAny_bind (wpAny_field g1 g3 (x := vl) rfl (wpAny_bind (wpAny_field g1 g3 (x := vu) rfl (wpAny_bind (wpAny_field g1 g3 (x := vs) rfl (wpAny_pure ?_)))))))
  refine wpAny_bind (HT.slicePart_ ps ?_)
  show wpAny _ _ (if (c == 0) = true then _ else _) _ _ s
  rw [if_neg (by simpa using hc)]
  refine wpAny_bind (HT.slicePart_ pl (wpAny_bind (HT.slicePart_ pu (wpAny_bind (wpAny_pure ?_)))))
  show wpAny _ _ (match Builtin.Slice.sliceAdjust lo hi c (n : Int) with | (lo, hi) => pure (lo, c, Builtin.Slice.slicePlaces lo hi c)) _ _ s
  exact wpAny_pure h
theorem item3 {t sl : Addr} {items : List Value} {vl vu vs : Value} {lo hi : Option Int} {c : Int} {Q : Value → Shared → Prop} (ht : IsTup s.heap t items.toArray) (hs : s.heap.IsSliceOf sl vl vu vs) (pl : IsPart vl lo) (pu : IsPart vu hi) (ps : IsPart vs (some c)) (hc : c ≠ 0)
    (h1 : c ≠ 1) (h : Q (.ref s.heap.objs.size) { s with heap := s.heap.push { cls := .type "tuple", data := .seq (pk3 items lo hi c).toArray } }) (hz : (pk3 items lo hi c).length ≤ sizeLine) :
    wpAny (model prog w) A (getItem (.ref t) (.ref sl)) Q E s := by
  have fits : sizeOk (.seq (pk3 items lo hi c).toArray) := by
    show (pk3 items lo hi c).toArray.size ≤ sizeLine
    rw [List.size_toArray]
    exact hz
  have isl : s.TypeIs (.ref sl) "slice" := by
    obtain ⟨ob, g1, g2, _⟩ := id hs
    exact ⟨ob, g1, g2⟩
  unfold getItem
  try with_reducible refine wpAny_holding ?_
  first | refine wpAny_bind (wpAny_pure ?_) | skip
  refine wpAny_bind (wpAny_sequenceKey ht.typeIs (by decide) (wpAny_bind (wpAny_callSpecial?_slot (name := Str.ofString "__getitem__") ht.typeIs slot_tuple_getitem (wpAny_call_entry slot_tuple_getitem ht.typeIs entry_tuple_getitem ?_ (args_tuple_getitem _ _)))))
  show wpAny _ _ (Builtin.Tuple.tupleItemsOf (.ref t) >>= _) _ _ s
  refine wpAny_bind (tupleItemsOf_ ht (wpAny_bind (wpAny_typeOf isl ?_)))
  rw [if_pos (by decide)]
  refine wpAny_bind (applied3 hs pl pu ps hc ?_)
  have no : ¬ (((Builtin.Slice.sliceAdjust lo hi c items.toArray.size).1 == 0 && c == 1 && (Builtin.Slice.slicePlaces (Builtin.Slice.sliceAdjust lo hi c items.toArray.size).1 (Builtin.Slice.sliceAdjust lo hi c items.toArray.size).2 c) == items.toArray.size) = true) := fun q => by
    rw [Bool.and_eq_true, Bool.and_eq_true] at q
    exact h1 (eq_of_beq q.1.2)
  have e : ((List.range (Builtin.Slice.slicePlaces (Builtin.Slice.sliceAdjust lo hi c items.toArray.size).1 (Builtin.Slice.sliceAdjust lo hi c items.toArray.size).2 c)).filterMap fun (k : Nat) => items.toArray[((Builtin.Slice.sliceAdjust lo hi c items.toArray.size).1 + (k : Int) * c).toNat]?) = pk3 items lo hi c := by
    unfold pk3
    rw [List.size_toArray]
    simp only [List.getElem?_toArray]
  show wpAny _ _ (if ((Builtin.Slice.sliceAdjust lo hi c items.toArray.size).1 == 0 && c == 1 && (Builtin.Slice.slicePlaces (Builtin.Slice.sliceAdjust lo hi c items.toArray.size).1 (Builtin.Slice.sliceAdjust lo hi c items.toArray.size).2 c) == items.toArray.size) = true then _ else _) _ _ s
  rw [if_neg no, e]
  first
    | exact wpAny_bind (m := Builtin.Tuple.tupleExact _) (wpAny_newObj_type (wpAny_pure ⟨_, rfl, wpAny_pure h⟩) fits)
    | exact wpAny_bind (m := Builtin.Tuple.tupleExact _) (wpAny_newObj_type (wpAny_bind (wpAny_pure (wpAny_pure ⟨_, rfl, wpAny_pure h⟩))) fits)
    | exact wpAny_bind (wpAny_bind (m := Builtin.Tuple.tupleExact _) (wpAny_newObj_type (wpAny_pure (wpAny_pure ⟨_, rfl, wpAny_pure h⟩)) fits))
    | exact wpAny_bind (wpAny_bind (m := Builtin.Tuple.tupleExact _) (wpAny_newObj_type (wpAny_pure ⟨_, rfl, wpAny_pure h⟩) fits))
end
section
variable {X : Cx} {K : PySem.W.Frag} {e s3 : Expr} {lo hi : Option Expr} {te : TE} {tl th t3 : TO} {p3 pos : Pos}
def tSl3 (K : PySem.W.Frag) (te : TE) (tl th t3 : TO) : TE := fun σ H Q => te σ H fun x H1 => tl σ H1 fun l H2 => th σ H2 fun u H3 => t3 σ H3 fun c H4 => ∃ a xs k, x = .ref a ∧ c = some k ∧ SqT K H4 a xs ∧ k ≠ 0 ∧ k ≠ 1 ∧ (pk3 xs l u k).length ≤ sizeLine ∧
  ∀ p, H4 p = none → Q (.ref p) (upd H4 p (.tup (pk3 xs l u k)))
theorem pe_sl3 (hK : X.K = K) (he : PE X e te) (hl : PO X lo tl) (hu : PO X hi th) (h3 : PO X (some s3) t3) (ho : ∀ a b : Addr, ∃ ops, subscripted (Expr.Slice lo hi (some s3) p3) false (.ref a) (.ref b) = operate ops (getItem (.ref a) (.ref b)) := by exact fun _ _ => ⟨_, rfl⟩) : PE X (.Subscript e (.Slice lo hi (some s3) p3) pos) (tSl3 K te tl th t3) := by
  subst hK
  refine ⟨fun pins s σ H Q I h => Subscript_ (thn (he.run pins s σ H _ I h) fun v s1 ⟨x, H1, I1, r1, q1⟩ => wpAny_Slice (thn (hl.run pins s1 σ H1 _ I1 q1) fun vl s2 ⟨l, H2, I2, pl, q2⟩ => thn (hu.run pins s2 σ H2 _ I2 q2) fun vu s4 ⟨u, H3, I3, pu, q3⟩ =>
    thn (h3.run pins s4 σ H3 _ I3 q3) fun vc s5 ⟨c, H4, I4, pc, q4⟩ => ?_))⟩
  obtain ⟨a, xs, k, ex, ec, hx, k0, k1, hz, q⟩ := q4
  subst ex
  subst ec
  cases r1
  have I5 : Inv X pins σ H4 { s5 with heap := s5.heap.push { cls := .type "slice", data := .fields #[vl, vu, vc] } } := I4.kept (t' := s5.toks) fun b ob q => Heap.get?_push_of_some _ q
  obtain ⟨its, r, ht, _⟩ := I5.tuple hx
  have rv := pk3_vals r l u k
  show wpAny (model X.prog X.w) X.A (subscriptTail e (.Slice lo hi (some s3) p3) (.ref a) (.ref s5.heap.objs.size)) (EP X pins σ Q) X.xe { s5 with heap := s5.heap.push { cls := .type "slice", data := .fields #[vl, vu, vc] } }
  obtain ⟨ops, hops⟩ := ho a s5.heap.objs.size
  refine tail_any (ops := ops) ht.typeIs (slot_tuple_getitem.lookup) ?_ hops
  refine item3 ht (Heap.IsSliceOf.new _ vl vu vc) pl pu pc k0 k1 ?_ (by rw [← rv.length]; exact hz)
  refine ⟨.ref _, _, I5.laid (t' := s5.toks) (o := .tup (pk3 xs l u k)) (fun b ob q => Heap.get?_push_of_some _ q) (Nat.le_refl _) ?_, rfl, q _ (I5.hok.fresh (Nat.le_refl _))⟩
  exact ⟨hz, _, rv, IsTup.new _ _⟩
end
end Tx

/-! ### own rules: set(xs), xs a list of ints; sorted of it -/
namespace Tz
open PySem PySem.Spec PyProof.Rows L2
section
variable {P : Program} {w : World} {A : Around} {E : Value → Shared → Prop} {s : Shared}
/-- the new set, empty -/
abbrev nul (w : World) : Obj := { cls := .type "set", dict := none, data := .set #[] 0 (.fresh 0 0 (!w.params.followText "set-order")) }
/-- what the filling leaves behind -/
def Filled (w : World) (s : Shared) (ns : List Int) (s2 : Shared) : Prop := ∃ h' tk c, s2 = { s with heap := h', toks := tk } ∧ SetR w h' s.heap.objs.size (fun j => decide (j ∈ ns)) c ∧ c ≤ ns.length ∧ ∀ b o, s.heap.get? b = some o → h'.get? b = some o
theorem set_of_list {l : Addr} {items : Array Value} (ns : List Int) {Q : Value → Shared → Prop} (hh : A.handled = none) (hl : s.heap.IsList l items) (hit : IntsAre items.toList ns) (hb : ns.length + 1 < scanBound)
    (h : ∀ s2, Filled w s ns s2 → Q (.ref s.heap.objs.size) s2) : wpAny (model P w) A (call (.type "set") [.ref l]) Q E s := by
  have hisz : items.size = ns.length := by
    have q := IntsAre.length hit
    rwa [Array.length_toList] at q
  have hS : (s.heap.push (nul w)).get? s.heap.objs.size = some (nul w) := Heap.get?_push_size _ rfl
  have hlt : l < s.heap.objs.size := by
    obtain ⟨o, ho, _⟩ := hl
    exact Heap.lt_size ho
  obtain ⟨c, tl, hmro⟩ := F.called_set.mro
  have m1 := F.called_set.made
  have m2 := F.called_set.sub
  refine wpAny_call (codeAny_of_tree ?_)
  show wpAny _ _ (callAny (.type "set") _) _ _ _
  refine wpAny_pure ⟨Code.quiet_builtin _ (by decide +kernel), codeAny_builtin F.entry_type_call ?_⟩
  rw [Around.under_plain (weight_type_call_type "set" [.ref l] []) rfl]
  have m3 := F.called_set.notType
  have m4 := F.called_set.canCreate
  have m5 := F.typeCall_set_1 (.ref l)
  repeat (any_goals (first | assumption | wp_step))
  refine codeAny_mono (code_set_led1 (.ref l) (E := E) (Q₁ := fun obj s1 => obj = .ref s.heap.objs.size ∧ s1 = { s with heap := s.heap.push (nul w) }) ⟨rfl, rfl⟩) fun r s1 hr => ?_
  cases r with
  | error e => exact hr
  | ok fl =>
    cases fl with
    | next => exact hr.elim
    | brk => exact hr.elim
    | cont => exact hr.elim
    | ret obj =>
      obtain ⟨rfl, rfl⟩ := hr
      have hT : Shared.TypeIs { s with heap := s.heap.push (nul w) } (.ref s.heap.objs.size) "set" := ⟨_, hS, rfl⟩
      have m6 := F.called_set.init.lookup
      have m7 := F.called_set.init.bind (.ref s.heap.objs.size)
      repeat (any_goals (first | assumption | wp_step))
      refine codeAny_mono (codeAny_call_builtin (R := wants (fun r s2 => r = .none ∧ Filled w s ns s2) E) F.called_set.init.plain F.entry_set_init (check_set_init_1 hT ?_)) fun r2 s2 hr2 => ?_
      · obtain ⟨ol, hol, hcl, nl, hdl⟩ := hl
        obtain ⟨ocls, odict, odata, oslots⟩ := ol
        simp only at hcl hdl
        subst hcl
        subst hdl
        have hol' := Heap.get?_push_of_some (nul w) hol
        have q1 := F.sub_list_set
        have q2 := F.sub_list_frozenset
        have q3 : (Value.type "list" == Value.type "dict") = false := by decide
        have hl1 : (s.heap.push (nul w)).IsList l items := ⟨_, hol', rfl, nl, rfl⟩
        unfold Builtin.«set.__init__» noKeywords Builtin.Frozenset.updateFrom
        generalize hPI : pyIter = PI
        wp_walk
        subst hPI
        refine wpAny_pyIter_list hl1 ?_
        refine wpAny_bind (wpAny_runValue ?_)
        have hh3 : A.in1.in1.in1.handled = none := by simp [hh]
        have n1 : l ≠ (s.heap.push (nul w)).objs.size := by
          rw [Heap.size_push]
          exact Nat.ne_of_lt (Nat.lt_succ_of_lt hlt)
        have n2 : s.heap.objs.size ∉ [(s.heap.push (nul w)).objs.size, l] := by
          rw [Heap.size_push]
          simp only [List.mem_cons, List.not_mem_nil, or_false, not_or]
          exact ⟨Nat.ne_of_lt (Nat.lt_succ_self _), Nat.ne_of_gt hlt⟩
        have vals : ∀ (i : Nat) (v : Value), items[i]? = some v → ∃ k t, ns[i]? = some k ∧ v = .int k t := fun i v hv => by
          have hi : i < ns.length := by rw [← hisz]; exact (Array.getElem?_eq_some_iff.mp hv).1
          obtain ⟨t, e⟩ := PyProof.Rows.IntsAre.int_at hit i v (by rw [Array.getElem?_toList]; exact hv)
          exact ⟨ns[i], t, List.getElem?_eq_getElem hi, by rw [e, List.getD_eq_getElem?_getD, List.getElem?_eq_getElem hi]; rfl⟩
        refine set_update_ints ((Walks.list hh3 _ l n1 items).toS) s.heap.objs.size n2 ns hisz hb vals (items.size - 0) 0 _ (by omega) (Nat.zero_le _)
          ⟨⟨_, Heap.get?_push_size _ rfl, rfl, rfl⟩, (hl1.push _)⟩ ⟨0, Nat.le_refl 0, setR_new_at (Heap.get?_push_of_some _ hS)⟩ fun s' c' hm hc' hS' => ?_
        obtain ⟨h', g2, d', tk', os'⟩ := s'
        obtain rfl : g2 = s.gens := hm.gens
        obtain rfl : d' = s.drawn := hm.drawn
        obtain rfl : os' = s.os := hm.os
        show wpAny _ _ _ _ _ _
        refine wpAny_pure ?_
        show wpAny _ _ (ret Value.none) _ _ _
        rw [hisz] at hc'
        refine wpAny_pure ⟨rfl, h', tk', c', rfl, hS', hc', fun b o e => ?_⟩
        have b0 : b < s.heap.objs.size := Heap.lt_size e
        refine hm.heap b o ?_ (Heap.get?_push_of_some _ (Heap.get?_push_of_some _ e))
        rw [Heap.size_push]
        simp only [List.mem_cons, List.not_mem_nil, or_false, not_or]
        exact ⟨Nat.ne_of_lt b0, Nat.ne_of_lt (Nat.lt_succ_of_lt b0)⟩
      · cases r2 with
        | error e => exact hr2
        | ok fl2 =>
          cases fl2 with
          | next => exact hr2.elim
          | brk => exact hr2.elim
          | cont => exact hr2.elim
          | ret r =>
            obtain ⟨rfl, hf⟩ := hr2
            have hf2 := hf
            obtain ⟨h', tk, c, rfl, _⟩ := hf2
            repeat (any_goals (first | assumption | wp_step))
            exact h _ hf
end
section
variable {X : Cx} {K : PySem.W.Frag} {w : World}
/-- set(xs), xs a list of ints -/
def rSetLI (K : PySem.W.Frag) (w : World) : List V → Hp → VK → Prop := fun xs H Q => ∃ (l : Addr) (ns : List Int), xs = [V.ref l] ∧ SqL K H l (ns.map V.int) ∧ ns.length + 1 < scanBound ∧
  ∀ p c, H p = none → c ≤ ns.length → Q (.ref p) (upd H p (SetO w p (fun j => decide (j ∈ ns)) c))
theorem cr_setLI (h : X.K = K) (hw : X.w = w) (hc : X.calm = true) : CallR X (.type "set") (rSetLI K w) := by
  subst h
  subst hw
  intro pins s σ H xs us Q I r h
  obtain ⟨l, ns, rfl, hl, hb, q⟩ := h
  rw [Vals.ref1 r]
  obtain ⟨its, rv, pl, hz⟩ := I.list hl
  refine set_of_list (P := X.prog) (w := X.w) ns (I.ok.hd hc) pl.isList rv.ints hb fun s2 hf => ?_
  obtain ⟨h', tk, c, rfl, R, hcl, hk⟩ := hf
  exact ⟨.ref _, upd H s.heap.objs.size (SetO X.w s.heap.objs.size (fun j => decide (j ∈ ns)) c), I.laid (t' := tk) hk (Nat.le_refl _) (setO_new R), rfl, q _ c (I.hok.fresh (Nat.le_refl _)) hcl⟩
theorem cr_sortedSet' (hw : X.w = w) (hc : X.calm = true) : CallR X (.builtin "sorted") (rSortedSet w) := by
  subst hw
  exact cr_sortedSet hc
end
end Tz

namespace Bx
open PySem PySem.Spec PyProof.Rows L2
def mf (I O L : Int) (ot rt : Addr) : List (Str × V) := putF "rows" (.ref rt) (putF "opening" (.ref ot) (putF "lead" (.int L) (putF "outputs" (.int O) (putF "inputs" (.int I) []))))
theorem mf_I (I O L : Int) (a b : Addr) : (mf I O L a b).lookup ("inputs" : Str) = some (.int I) := by
  unfold mf
  rw [lookup_putF, if_neg (by decide +kernel), lookup_putF, if_neg (by decide +kernel), lookup_putF, if_neg (by decide +kernel), lookup_putF, if_neg (by decide +kernel), lookup_putF, if_pos rfl]
theorem mf_O (I O L : Int) (a b : Addr) : (mf I O L a b).lookup ("outputs" : Str) = some (.int O) := by
  unfold mf
  rw [lookup_putF, if_neg (by decide +kernel), lookup_putF, if_neg (by decide +kernel), lookup_putF, if_neg (by decide +kernel), lookup_putF, if_pos rfl]
theorem mf_L (I O L : Int) (a b : Addr) : (mf I O L a b).lookup ("lead" : Str) = some (.int L) := by
  unfold mf
  rw [lookup_putF, if_neg (by decide +kernel), lookup_putF, if_neg (by decide +kernel), lookup_putF, if_pos rfl]
theorem mf_o (I O L : Int) (a b : Addr) : (mf I O L a b).lookup ("opening" : Str) = some (.ref a) := by
  unfold mf
  rw [lookup_putF, if_neg (by decide +kernel), lookup_putF, if_pos rfl]
theorem mf_r (I O L : Int) (a b : Addr) : (mf I O L a b).lookup ("rows" : Str) = some (.ref b) := by
  unfold mf
  rw [lookup_putF, if_pos rfl]
structure MchC (K : PySem.W.Frag) (C : Addr) : Prop where
  cl : Cls K C
  nI : NoAttr K C "inputs"
  nO : NoAttr K C "outputs"
  nL : NoAttr K C "lead"
  no : NoAttr K C "opening"
  nr : NoAttr K C "rows"
/-- rows of pairs -/
structure RP (mk : List V → HO) (H : Hp) (as : List Addr) (c : List (List (Int × Int))) : Prop where
  len : as.length = c.length
  g : ∀ (i : Nat) (a : Addr), as[i]? = some a → ∃ (bs : List Addr) (row : List (Int × Int)), c[i]? = some row ∧ H a = some (mk (bs.map V.ref)) ∧ bs.length = row.length ∧ ∀ (j : Nat) (b : Addr), bs[j]? = some b → ∃ t l, row[j]? = some (t, l) ∧ H b = some (.tup [.int t, .int l])
theorem RP.same {mk : List V → HO} {H H' : Hp} {as : List Addr} {c : List (List (Int × Int))} (s : Same H H') (h : RP mk H as c) : RP mk H' as c := ⟨h.len, fun i a e => by
  obtain ⟨bs, row, h1, h2, h3, h4⟩ := h.g i a e
  exact ⟨bs, row, h1, s _ _ h2, h3, fun j b hb => by obtain ⟨t, l, h5, h6⟩ := h4 j b hb; exact ⟨t, l, h5, s _ _ h6⟩⟩⟩
def LPr (H : Hp) (r : Addr) (as : List Addr) (c : List (List (Int × Int))) : Prop := H r = some (.lst (as.map V.ref)) ∧ RP .lst H as c
theorem LPr.same {H H' : Hp} {r : Addr} {as : List Addr} {c : List (List (Int × Int))} (s : Same H H') (h : LPr H r as c) : LPr H' r as c := ⟨s _ _ h.1, h.2.same s⟩
def MchAt (C : Addr) (H : Hp) (x : Addr) (I O L : Int) (op : List Int) (c : List (List (Int × Int))) : Prop := ∃ (dx ot rt : Addr) (as : List Addr), H x = some (.ins C dx (mf I O L ot rt)) ∧ TupI H ot op ∧ H rt = some (.tup (as.map V.ref)) ∧ RP .tup H as c
theorem mch_same {C : Addr} {H H' : Hp} {x : Addr} {I O L : Int} {op : List Int} {c : List (List (Int × Int))} (s : Same H H') (h : MchAt C H x I O L op c) : MchAt C H' x I O L op c := by
  obtain ⟨dx, ot, rt, as, e1, e2, e3, e4⟩ := h
  exact ⟨dx, ot, rt, as, s _ _ e1, s _ _ e2, s _ _ e3, e4.same s⟩
/-- objects that are no lists stay where only lists change -/
theorem RP.keepT {H H' : Hp} {as : List Addr} {c : List (List (Int × Int))} (k : ∀ b xs, H b = some (.tup xs) → H' b = some (.tup xs)) (h : RP .tup H as c) : RP .tup H' as c := ⟨h.len, fun i a e => by
  obtain ⟨bs, row, h1, h2, h3, h4⟩ := h.g i a e
  exact ⟨bs, row, h1, k _ _ h2, h3, fun j b hb => by obtain ⟨t, l, h5, h6⟩ := h4 j b hb; exact ⟨t, l, h5, k _ _ h6⟩⟩⟩
/-- what holds of a machine -/
structure Vm (I O L : Int) (op : List Int) (c : List (List (Int × Int))) : Prop where
  i1 : 1 ≤ I
  o1 : 1 ≤ O
  l0 : -3 ≤ L
  l1 : L ≤ 2
  op_len : (op.length : Int) = max 0 (-L)
  ne : c ≠ []
  w : ∀ r ∈ c, (r.length : Int) = I
  st : ∀ r ∈ c, ∀ p ∈ r, 0 ≤ p.1 ∧ p.1 < (c.length : Int)
  op_in : ∀ z ∈ op, 0 ≤ z ∧ z < O
  em : ∀ r ∈ c, ∀ p ∈ r, 0 ≤ p.2 ∧ p.2 < O
end Bx
/-! own rule: a tuple times 1 is that tuple -/
namespace Bx
open PySem PySem.Spec PyProof.Rows L2
theorem mul_one (l : Addr) (items : Array Value) (n : Nat) (dd : Option Addr) (sl : Array (Option Value)) (u : Tok) :
    Meets (Builtin.«tuple.__mul__» ⟨[.ref l, .int 1 u], []⟩) (fun _ R s => s.heap.get? l = some { cls := .type "tuple", dict := dd, data := .seq items n, slots := sl } ∧ R (.ok (.ret (.ref l))) s) := .of_wp fun prog w A R s h => by
  obtain ⟨hp, g, d, tk, os⟩ := s
  obtain ⟨hl, h⟩ := h
  have q1 := AutoSeq1.idx_int
  wp_walk using AutoSeq1.wpAny_loadPart' hl
  repeat (first
    | (refine wpAny_ite_true (decide_eq_true (by simp)) ?_; wp_walk using AutoSeq1.wpAny_loadPart' hl)
    | (refine wpAny_ite_false (decide_eq_false (by simp)) ?_; wp_walk using AutoSeq1.wpAny_loadPart' hl))
  exact ⟨_, rfl, h⟩
def rRep1 (K : PySem.W.Frag) : R2 := fun x y H Q => ∃ l k xs, x = .ref l ∧ y = .int k ∧ SqT K H l xs ∧ xs ≠ [] ∧ 1 ≤ k ∧ k ≤ 1000 ∧ xs.length ≤ 1000 ∧ (k = 1 → Q (.ref l) H) ∧ (2 ≤ k → ∀ p, H p = none → Q (.ref p) (upd H p (.tup (List.replicate k.toNat xs).flatten)))
theorem op_rep1K {X : Cx} {K : PySem.W.Frag} (h : X.K = K) : OpR X (binaryOp .Mult) (rRep1 K) := by
  subst h
  intro pins s σ H x y v u Q I rx ry h
  obtain ⟨l, k, xs, ex, ey, hT, hne, h1, h2, hz, q1, q2⟩ := h
  by_cases c : k = 1
  · subst c
    subst ex
    subst ey
    cases rx
    obtain ⟨t, rfl⟩ := ry
    obtain ⟨its, r, ⟨⟨cls, dd, data, sl⟩, ho, hc, n, hd⟩, _⟩ := I.tuple hT
    simp only at hc hd
    subst hc hd
    refine wpAny_binaryOp_repeat_ref (T := "tuple") (U := "int") (by decide) ⟨_, ho, rfl⟩ (fun s' => typeIs_int s' 1 t) noFill_tuple_mul F.fills_int_mul F.slot_int_rmul repeat_tuple F.slot_int_index.lookup
      (call_meets F.slot_int_rmul (typeIs_int s 1 t) F.entry_int_rmul (F.args_int_rmul_2 _ _) (int_rmul_tuple 1 t l its.toArray n dd sl)
        ⟨ho, rfl, ⟨_, ho, rfl⟩, call_meets F.slot_tuple_mul ⟨_, ho, rfl⟩ F.entry_tuple_mul (F.args_tuple_mul_2 _ _) (mul_one l its.toArray n dd sl t) ⟨ho, ?_⟩⟩)
    exact ⟨.ref l, H, I, rfl, q1 rfl⟩
  · exact op_repT pins s σ H x y v u Q I rx ry ⟨l, k, xs, ex, ey, hT, hne, by omega, h2, hz, q2 (by omega)⟩
end Bx
namespace Bx
open PySem PySem.Spec PyProof.Rows L2
section
variable {X : Cx} {K : PySem.W.Frag}
theorem pe_revLK {e : Expr} {te : TE} {k : Nat} {p1 p2 p3 pos : Pos} (h : X.K = K) (he : PE X e te) : PE X (.Subscript e (.Slice none none (some (.UnaryOp .USub (.Constant (.int 1) k p1) p2)) p3) pos) (tRevL K te) := by
  subst h
  exact pe_revL he
end
section
variable {X : Cx} {k : Nat} {C f : Addr} {fd : FuncData} {ps : List Str} {sp : Sp} {W : WX} {m fl : Str} {p pos apos : Pos} {e o : Expr} {es : List Expr} {ta : TE} {t : TA}
/-- o.f as a target -/
def gFld (K : PySem.W.Frag) (to : TE) (f : Str) : TG := fun v σ H Q => to σ H fun x H2 => ∃ a C dx fs, x = .ref a ∧ H2 a = some (.ins C dx fs) ∧ Cls K C ∧ NoAttr K C f ∧ fs.length < 1000 ∧ Q σ (upd H2 a (.ins C dx (putF f v fs)))
theorem pg_fld (ho : PE X o ta) (ha : ∀ v, assign (.Attribute o fl pos) X.env v = (do
      let ov ← holding [v] (eval o X.env)
      standAt pos.atName
      holding [v, ov] (setAttr ov fl v)
      release [v, ov] []) := by intro _; rfl) : PG X (.Attribute o fl pos) (gFld X.K ta fl) := by
  refine ⟨fun pins s σ H v u Q I r h => ?_⟩
  rw [ha]
  refine wpAny_bind (wpAny_holding (thn (ho.run pins s σ H _ I h) fun ov s1 ⟨x, H1, I1, r1, a, C, dx, fs, ex, ea, c, n, l, q⟩ => ?_))
  subst ex
  obtain rfl : ov = Value.ref a := r1
  refine wpAny_bind (wpAny_standAt (wpAny_bind (wpAny_holding (setattr_ok I1 ea c n l r fun s3 I3 => ?_))))
  exact wpAny_release ⟨σ, _, I3, q⟩
/-- o.m(e) where the method may raise, in a try -/
def tMethX (C : Addr) (m : Str) (sp : Sp) (E : L2.St → XK) (ta : TE) (t : TA) : TE := fun σ H Q => ta σ H fun x H1 => ∃ a dx fs, x = .ref a ∧ H1 a = some (.ins C dx fs) ∧ fs.lookup m = none ∧ t σ H1 fun vs H2 => sp (x :: vs) H2 Q (E σ)
theorem pe_methX {pl : Sem Bool} (he : PE X o ta) (c : Cls X.K C) (hm : Meth X.K C m f) (F : FnOk X.prog X.w X.K X.mg X.base (L2.CX X.prog X.w) k f fd ps sp) (hr : Room k X.A) (hb : Binds X.K fd ps []) (tk : Takes X W) (ha : PA X (e :: es) t)
    (hst : starEach (e :: es) X.env = (false, eval e X.env) :: starEach es X.env := by rfl) (hpl : (backTo pos (starEach es X.env)).any (·.1) = false := by rfl)
    (ht : eval (.Call (.Attribute o m apos) (e :: es) [] pos) X.env = (do
      let ov ← eval o X.env
      standAt apos.atName
      let (f, first) ← holding [ov] (getMethod ov m pl)
      callWith pos f first (backTo pos (starEach (e :: es) X.env)) (backToKw pos (keywordEach [] X.env))) := by rfl) :
    PE X (.Call (.Attribute o m apos) (e :: es) [] pos) (tMethX C m sp (WE W) ta t) := by
  refine ⟨fun pins s σ H Q I h => ?_⟩
  refine PySem.W.methodCall_KW (pl := pl) (thn (he.run pins s σ H _ I h) fun u s1 ⟨x, H1, I1, rx, a, dx, fs, ex, ea, l, q⟩ => ?_) ht
  subst ex
  obtain rfl : u = Value.ref a := rx
  refine getmeth_ok I1 ea c hm l ?_
  refine PySem.W.callWith_K (first := [.ref a]) (h₀ := X.base) I.ok.mod.kin hm.kp (thn (ha.run pos pins s1 σ H1 _ I1 q) fun us s2 ⟨vs, H2, I2, r, q2⟩ => ⟨I2.kIn, ?_⟩) hst hpl
  exact run_fnS (us := .ref a :: us) (vs := .ref a :: vs) F hr hb (passAt tk σ) I2 (.cons rfl r) q2
end
/-- a journal's attributes -/
def jf (ma : Addr) (sp : Int) (tx : Str) (st tu : Int) (an : Addr) : List (Str × V) := [("machine", .ref ma), ("spacing", .int sp), ("text", .str tx), ("state", .int st), ("turns", .int tu), ("answers", .ref an)]
theorem jf_text (ma sp tx st tu an t') : putF "text" (.str t') (jf ma sp tx st tu an) = jf ma sp t' st tu an := by rfl
theorem jf_state (ma sp tx st tu an t') : putF "state" (.int t') (jf ma sp tx st tu an) = jf ma sp tx t' tu an := by rfl
theorem jf_turns (ma sp tx st tu an t') : putF "turns" (.int t') (jf ma sp tx st tu an) = jf ma sp tx st t' an := by rfl
theorem jl_m (ma sp tx st tu an) : (jf ma sp tx st tu an).lookup ("machine" : Str) = some (V.ref ma) := by rfl
theorem jl_sp (ma sp tx st tu an) : (jf ma sp tx st tu an).lookup ("spacing" : Str) = some (V.int sp) := by rfl
theorem jl_tx (ma sp tx st tu an) : (jf ma sp tx st tu an).lookup ("text" : Str) = some (V.str tx) := by rfl
theorem jl_st (ma sp tx st tu an) : (jf ma sp tx st tu an).lookup ("state" : Str) = some (V.int st) := by rfl
theorem jl_tu (ma sp tx st tu an) : (jf ma sp tx st tu an).lookup ("turns" : Str) = some (V.int tu) := by rfl
theorem jl_an (ma sp tx st tu an) : (jf ma sp tx st tu an).lookup ("answers" : Str) = some (V.ref an) := by rfl
theorem jl_hear (ma sp tx st tu an) : (jf ma sp tx st tu an).lookup ("hear" : Str) = none := by rfl
theorem jf_new (ma : Addr) (sp : Int) (tx : Str) (an : Addr) : putF "answers" (.ref an) (putF "turns" (.int 0) (putF "state" (.int 0) (putF "text" (.str tx) (putF "spacing" (.int sp) (putF "machine" (.ref ma) []))))) = jf ma sp tx 0 0 an := by rfl
structure JrnC (K : PySem.W.Frag) (C : Addr) : Prop where
  cl : Cls K C
  nm : NoAttr K C "machine"
  nsp : NoAttr K C "spacing"
  ntx : NoAttr K C "text"
  nst : NoAttr K C "state"
  ntu : NoAttr K C "turns"
  nan : NoAttr K C "answers"
/-- all but some objects stay -/
def Kpl (l : List Addr) (H H' : Hp) : Prop := ∀ b o, b ∉ l → H b = some o → H' b = some o
theorem Kpl.refl (l : List Addr) (H : Hp) : Kpl l H H := fun _ _ _ h => h
theorem Kpl.trans {l : List Addr} {H H1 H2 : Hp} (a : Kpl l H H1) (b : Kpl l H1 H2) : Kpl l H H2 := fun x o n h => b _ _ n (a _ _ n h)
theorem Kpl.same {l : List Addr} {H H1 : Hp} (s : Same H H1) : Kpl l H H1 := fun x o _ h => s _ _ h
theorem Kpl.own {l : List Addr} {H : Hp} {a : Addr} {o : HO} (h : a ∈ l) : Kpl l H (upd H a o) := fun x o' n hx => by rw [upd_ne (fun z => n (by rw [z]; exact h))]; exact hx
theorem Kpl.more {l l' : List Addr} {H H1 : Hp} (k : Kpl l H H1) (h : ∀ a ∈ l, a ∈ l') : Kpl l' H H1 := fun x o n hx => k _ _ (fun z => n (h _ z)) hx
theorem sat {H H' : Hp} {a : Addr} {o : HO} (s : Same H H') (h : H a = some o) : H' a = some o := s _ _ h
end Bx
namespace Dm
open PySem PySem.Builtin TL
def pad (k : Nat) (l : List Nat) : List Nat := List.replicate (k - l.length) 48 ++ l
theorem pad_snoc (k : Nat) (l : List Nat) (c : Nat) : pad (k + 1) (l ++ [c]) = pad k l ++ [c] := by
  unfold pad
  rw [List.length_append, show k + 1 - (l.length + [c].length) = k - l.length by simp only [List.length_singleton]; omega, List.append_assoc]
theorem numL_pad : ∀ (k q r : Nat), 1 ≤ q → r < 10 ^ (k + 1) → numL (q * 10 ^ (k + 1) + r) = numL q ++ pad (k + 1) (numL r)
  | 0, q, r, hq, hr => by
    have hr : r < 10 := by simpa using hr
    rw [numL_step (by omega), show (q * 10 ^ (0 + 1) + r) / 10 = q by omega, show (q * 10 ^ (0 + 1) + r) % 10 = r by omega, numL_lt hr]
    rfl
  | k + 1, q, r, hq, hr => by
    have e1 : q * 10 ^ (k + 1 + 1) + r = (q * 10 ^ (k + 1)) * 10 + r := by rw [Nat.pow_succ 10 (k + 1), Nat.mul_assoc]
    have hp : 1 ≤ 10 ^ (k + 1) := Nat.one_le_iff_ne_zero.mpr (Nat.pos_iff_ne_zero.mp (Nat.pow_pos (by decide)))
    have hq1 : 1 ≤ q * 10 ^ (k + 1) := Nat.mul_le_mul hq hp
    have hr2 : r / 10 < 10 ^ (k + 1) := by
      rw [Nat.pow_succ 10 (k + 1)] at hr
      omega
    rw [e1, numL_step (by omega), show ((q * 10 ^ (k + 1)) * 10 + r) / 10 = q * 10 ^ (k + 1) + r / 10 by omega, show ((q * 10 ^ (k + 1)) * 10 + r) % 10 = r % 10 by omega, numL_pad k q (r / 10) hq hr2]
    by_cases h : r < 10
    · rw [numL_lt h, show r / 10 = 0 by omega, show r % 10 = r by omega, numL_lt (by decide : (0 : Nat) < 10)]
      unfold pad
      simp only [List.length_singleton]
      rw [show k + 1 + 1 - 1 = (k + 1 - 1) + 1 by omega, List.replicate_succ', List.append_assoc, List.append_assoc]
    · rw [numL_step (show 10 ≤ r by omega), pad_snoc, List.append_assoc]
theorem zf {r : Nat} (hr : r < 10 ^ 18) : tl (Txt.zfill (Str.ofString (toString ((r : Nat) : Int))) 18) = pad 18 (numL r) := by
  have hl : (Str.ofString (toString ((r : Nat) : Int))).length = (numL r).length := by rw [len_tl, tl_num]
  have hle := numL_len (by decide : 0 < 18) hr
  unfold Txt.zfill
  rw [hl]
  by_cases h : (18 : Int) ≤ ((numL r).length : Nat)
  · rw [if_pos h, tl_num]
    unfold pad
    rw [show 18 - (numL r).length = 0 by omega]
    rfl
  · rw [if_neg h]
    have hz : ∀ (x : Str) (m : Nat), (∀ c, x.cps[0]? = some c → 48 ≤ c) → tl (zfilled x m) = List.replicate m 48 ++ tl x := by
      intro x m hc
      unfold zfilled
      have hp : tl (Builtin.Str.padded x m 0 48) = List.replicate m 48 ++ tl x := by
        unfold Builtin.Str.padded
        show (Array.replicate m 48 ++ x.cps ++ Array.replicate 0 48).toList = _
        simp [tl]
      split
      · rename_i e; have := hc _ e; omega
      · rename_i e; have := hc _ e; omega
      · exact hp
    rw [hz, tl_num]
    · unfold pad
      rw [show (18 : Int).toNat - (numL r).length = 18 - (numL r).length from rfl]
    · intro c hc
      have : c ∈ numL r := by
        rw [← tl_num]
        have := Array.getElem?_eq_some_iff.mp hc
        obtain ⟨h1, h2⟩ := this
        exact Array.mem_toList_iff.mpr (by rw [← h2]; exact Array.getElem_mem h1)
      exact (numL_digits r c this).1
end Dm
namespace Bx
open PySem PySem.Spec PyProof.Rows L2
/-- for c in text -/
theorem for_str {x : Str} {g : TG} {tb : TS} {D : Ends} {σ : L2.St} {H : Hp} (Pv : Nat → L2.St → Hp → Prop) (h0 : Pv 0 σ H)
    (hs : ∀ i c σ H, x.cps[i]? = some c → Pv i σ H → g (.str ⟨#[c]⟩) σ H fun σ2 H2 => tb { D with nx := Pv (i + 1), ct := Pv (i + 1), bk := D.nx } σ2 H2) (hd : ∀ σ H, Pv x.cps.size σ H → D.nx σ H) :
    ∃ W : Nat → Nat → L2.St → Hp → Prop, (∃ m, W 0 m σ H) ∧ ∀ i m σ H, W i m σ H →
      ((Its x).stop i H ∧ D.nx σ H) ∨ ((Its x).go i H ∧ ∃ N : L2.St → Hp → Prop, (∀ σ' H', N σ' H' → ∃ m', m' < m ∧ W (i + 1) m' σ' H') ∧ ∀ v H', (Its x).yld i H v H' → g v σ H' fun σ2 H2 => tb { D with nx := N, ct := N, bk := D.nx } σ2 H2) := by
  refine ⟨fun i m σ H => m = x.cps.size - i ∧ i ≤ x.cps.size ∧ Pv i σ H, ⟨x.cps.size, by simp, Nat.zero_le _, h0⟩, ?_⟩
  rintro i m σ H ⟨rfl, hi, p⟩
  by_cases hlt : i < x.cps.size
  · refine .inr ⟨hlt, Pv (i + 1), fun σ' H' p' => ⟨x.cps.size - (i + 1), by omega, rfl, hlt, p'⟩, fun v H' y => ?_⟩
    obtain ⟨e, c, hc, rfl⟩ := y
    subst e
    exact hs i c σ _ hc p
  · have e : i = x.cps.size := by omega
    subst e
    exact .inl ⟨Nat.le_refl _, hd _ _ p⟩
end Bx
namespace Bx
open PySem PySem.Spec PyProof.Rows L2
/-- {k: v}, k a tuple of numbers and texts -/
def dispQ (p : Addr) (Q : VK) : List (V × V) → Hp → Prop
  | [(y, z)], H2 => ∃ (b : Addr) (ks : List L2.Key), y = .ref b ∧ H2 b = some (.tup (ks.map kV)) ∧ H2 p = some (.dT []) ∧ Q (.ref p) (upd H2 p (.dT [(ks, z)]))
  | _, _ => False
def tDispT (tk tv : TE) : TE := fun σ H Q => ∀ p, H p = none → tk σ (upd H p (.dT [])) fun y H1 => tv σ H1 fun z H2 => dispQ p Q [(y, z)] H2
theorem pe_dispT {X : Cx} {pos : Pos} {k v : Expr} {tk tv : TE} (hu : X.A.units + 1 < cLine) (hk : PE X k tk) (hv : PE X v tv) : PE X (.Dict [some k] [v] pos) (tDispT tk tv) := by
  refine ⟨fun pins s σ H Q I h => ?_⟩
  refine wpAny_Dict_any rfl rfl (by simp) (by show 1 ≤ 15; decide) ?_
  have hf : H s.heap.objs.size = none := I.hok.fresh (Nat.le_refl _)
  have h1 := h s.heap.objs.size hf
  have I1 : Inv X pins σ (upd H s.heap.objs.size (.dT [])) { heap := s.heap.push { cls := .type "dict", data := .dict #[] }, gens := s.gens, drawn := s.drawn, toks := s.toks, os := s.os } := by
    refine I.laid (t' := s.toks) (fun b o hb => ?_) (Nat.le_refl _) (dt_empty s.heap ?_)
    · exact Heap.get?_push_of_some _ hb
    · exact I.big
  refine wpAny_mono ((pps_cons hk hv pps_nil).run pins _ σ _ (dispQ s.heap.objs.size Q) I1 h1) (fun vs s1 hq => ?_) (fun _ _ z => z)
  obtain ⟨ps, H2, I2, rv, hq⟩ := hq
  match ps, rv, hq with
  | [(y, z)], rv, ⟨b, ks, e, eb, ed, q⟩ =>
    subst e
    obtain ⟨_, hsm, xs, kt, D⟩ := dt_of I2.hok ed
    cases kt
    cases rv with
    | cons r0 rt =>
      rename_i u0 us0
      cases rt
      obtain ⟨u, r⟩ := u0
      obtain ⟨ra, rb⟩ := r0
      cases ra
      unfold storeAll
      simp only [List.forIn_cons, List.forIn_nil]
      refine wpAny_bind (wpAny_bind (wpAny_dictSet_heap (knd := tupleKind (mixKind X.prog X.w)) (Nat.lt_of_le_of_lt (Nat.le_succ _) hu) (key_of I2.hok eb) D (fun h' D' sb => ?_) (by show 0 ≤ sizeLine; exact Nat.zero_le _)))
      refine wpAny_pure ?_
      refine wpAny_pure ?_
      refine ⟨.ref s.heap.objs.size, upd H2 s.heap.objs.size (.dT [(ks, z)]), ?_, rfl, q⟩
      refine d_write I2 (by rw [ed]; exact True.intro) sb ?_ ?_
      · obtain ⟨o, es, ep, g, _⟩ := D'
        exact ⟨o, g⟩
      · have nb : b ≠ s.heap.objs.size := fun e => by rw [e, ed] at eb; cases eb
        refine ⟨by show 1 ≤ sizeLine; decide, hsm, [(ks, b, r)], .cons ⟨rfl, by rw [upd_ne nb]; exact eb, rb⟩ .nil, ?_⟩
        obtain ⟨o, es, ep, g1, g2, g3, g4, _, g5⟩ := D'
        exact ⟨o, es, ep, g1, g2, g3, g4, g5⟩
theorem op_notInDK {X : Cx} {K : PySem.W.Frag} (h : X.K = K) (hu : X.A.units + 65 < cLine) : OpR X (compareOp .NotIn) (rNotInD K) := by
  subst h
  exact op_notInD hu
end Bx
namespace Gr
/-! Directed graphs as rows; what a depth-first order and components by it are. -/
abbrev G := List (List Nat)
def row (g : G) (u : Nat) : List Nat := g.getD u []
def E (g : G) (u v : Nat) : Prop := v ∈ row g u
inductive Rc (g : G) : Nat → Nat → Prop
  | refl (u : Nat) : Rc g u u
  | step {u v w : Nat} : E g u v → Rc g v w → Rc g u w
theorem Rc.one {g : G} {u v : Nat} (h : E g u v) : Rc g u v := .step h (.refl v)
theorem Rc.trans {g : G} {u v w : Nat} (h : Rc g u v) (k : Rc g v w) : Rc g u w := by
  induction h with
  | refl _ => exact k
  | step e _ ih => exact .step e (ih k)
theorem Rc.snoc {g : G} {u v w : Nat} (h : Rc g u v) (k : E g v w) : Rc g u w := h.trans (.one k)
/-- a way that leaves a set crosses its border -/
theorem Rc.cross {g : G} {S : Nat → Prop} {u v : Nat} (h : Rc g u v) (hu : S u) (hv : ¬ S v) : ∃ b y, S b ∧ E g b y ∧ ¬ S y ∧ Rc g u b ∧ Rc g y v := by
  induction h with
  | refl _ => exact absurd hu hv
  | @step a b c e r ih =>
    by_cases hb : S b
    · obtain ⟨x, y, h1, h2, h3, h4, h5⟩ := ih hb hv
      exact ⟨x, y, h1, h2, h3, .step e h4, h5⟩
    · exact ⟨a, b, hu, e, hb, .refl _, r⟩
def Ok (g : G) : Prop := ∀ u, ∀ v ∈ row g u, v < g.length
theorem Ok.rc {g : G} (h : Ok g) {u v : Nat} (r : Rc g u v) (hu : u < g.length) : v < g.length := by
  induction r with
  | refl _ => exact hu
  | step e _ ih => exact ih (h _ _ e)
/-- mutual -/
def Mu (g : G) (u v : Nat) : Prop := Rc g u v ∧ Rc g v u
theorem Mu.symm {g : G} {u v : Nat} (h : Mu g u v) : Mu g v u := ⟨h.2, h.1⟩
theorem Mu.refl (g : G) (u : Nat) : Mu g u u := ⟨.refl _, .refl _⟩
theorem Mu.trans {g : G} {u v w : Nat} (h : Mu g u v) (k : Mu g v w) : Mu g u w := ⟨h.1.trans k.1, k.2.trans h.2⟩

/-- the last one in a list -/
theorem last_split {P : Nat → Prop} : ∀ {l : List Nat}, (∃ x ∈ l, P x) → ∃ A w B, l = A ++ w :: B ∧ P w ∧ ∀ b ∈ B, ¬ P b
  | [], h => by obtain ⟨_, h, _⟩ := h; cases h
  | y :: l, h => by
    by_cases k : ∃ x ∈ l, P x
    · obtain ⟨A, w, B, e, h1, h2⟩ := last_split k
      exact ⟨y :: A, w, B, by rw [e]; rfl, h1, h2⟩
    · obtain ⟨x, hx, p⟩ := h
      rcases List.mem_cons.mp hx with rfl | hx
      · exact ⟨[], x, l, rfl, p, fun b hb z => k ⟨b, hb, z⟩⟩
      · exact absurd ⟨x, hx, p⟩ k

/-! ### the order of leaving -/
structure Dfs (g : G) (ord : List Nat) (stk : List (Nat × Nat)) : Prop where
  nd : (ord ++ stk.map (·.1)).Nodup
  lt : ∀ u ∈ ord ++ stk.map (·.1), u < g.length
  ch : stk.Pairwise fun a b => Rc g b.1 a.1
  fo : ∀ x ∈ stk, x.2 ≤ (row g x.1).length ∧ ∀ i y, i < x.2 → (row g x.1)[i]? = some y → y ∈ ord ++ stk.map (·.1)
  bl : ∀ b ∈ ord, ∀ y ∈ row g b, y ∈ ord ++ stk.map (·.1)
  sp : ∀ A u B, ord = A ++ u :: B → ∀ b ∈ A ++ [u], ∀ y ∈ row g b, y ∈ A ++ [u] ∨ Rc g y u
theorem Dfs.nil (g : G) : Dfs g [] [] := ⟨List.nodup_nil, fun u h => (by cases h), List.Pairwise.nil, fun x h => (by cases h), fun b h => (by cases h), fun A u B h => (by cases A <;> cases h)⟩
theorem mem_oc {ord : List Nat} {n f f' : Nat} {stk : List (Nat × Nat)} {y : Nat} : y ∈ ord ++ ((n, f) :: stk).map (·.1) ↔ y ∈ ord ++ ((n, f') :: stk).map (·.1) := Iff.rfl
/-- one edge more, to a node that has been found -/
theorem Dfs.skip {g : G} {ord : List Nat} {n f t : Nat} {stk : List (Nat × Nat)} (h : Dfs g ord ((n, f) :: stk)) (e : (row g n)[f]? = some t) (ht : t ∈ ord ++ ((n, f) :: stk).map (·.1)) : Dfs g ord ((n, f + 1) :: stk) := by
  refine ⟨h.nd, h.lt, ?_, fun x hx => ?_, h.bl, h.sp⟩
  · have := h.ch
    rw [List.pairwise_cons] at this ⊢
    exact this
  · rcases List.mem_cons.mp hx with rfl | hx
    · have hf : f < (row g n).length := by
        rcases Nat.lt_or_ge f (row g n).length with k | k
        · exact k
        · rw [List.getElem?_eq_none k] at e; cases e
      refine ⟨hf, fun i y hi hy => ?_⟩
      rcases Nat.lt_or_ge i f with k | k
      · exact (h.fo _ List.mem_cons_self).2 i y k hy
      · have : i = f := Nat.le_antisymm (Nat.le_of_lt_succ hi) k
        subst this
        have hy : (row g n)[i]? = some y := hy
        rw [e] at hy
        cases hy
        exact ht
    · exact h.fo x (List.mem_cons_of_mem _ hx)
theorem Dfs.skip2 {g : G} {ord : List Nat} {n f t : Nat} {s : Nat × Nat} {stk : List (Nat × Nat)} (h : Dfs g ord (s :: (n, f) :: stk)) (e : (row g n)[f]? = some t) (ht : t ∈ ord ++ (s :: (n, f) :: stk).map (·.1)) : Dfs g ord (s :: (n, f + 1) :: stk) := by
  refine ⟨h.nd, h.lt, ?_, fun x hx => ?_, h.bl, h.sp⟩
  · have := h.ch
    rw [List.pairwise_cons, List.pairwise_cons] at this ⊢
    refine ⟨fun a ha => ?_, this.2⟩
    rcases List.mem_cons.mp ha with rfl | ha
    · exact this.1 (n, f) List.mem_cons_self
    · exact this.1 a (List.mem_cons_of_mem _ ha)
  · rcases List.mem_cons.mp hx with rfl | hx
    · exact h.fo x List.mem_cons_self
    rcases List.mem_cons.mp hx with rfl | hx
    · have hf : f < (row g n).length := by
        rcases Nat.lt_or_ge f (row g n).length with k | k
        · exact k
        · rw [List.getElem?_eq_none k] at e; cases e
      refine ⟨hf, fun i y hi hy => ?_⟩
      rcases Nat.lt_or_ge i f with k | k
      · exact (h.fo (n, f) (by simp)).2 i y k hy
      · have : i = f := Nat.le_antisymm (Nat.le_of_lt_succ hi) k
        subst this
        have hy : (row g n)[i]? = some y := hy
        rw [e] at hy
        cases hy
        exact ht
    · exact h.fo x (by simp [hx])
/-- a new node -/
theorem Dfs.push {g : G} {ord : List Nat} {t : Nat} {stk : List (Nat × Nat)} (h : Dfs g ord stk) (hl : t < g.length) (ht : t ∉ ord ++ stk.map (·.1)) (hr : ∀ x ∈ stk, Rc g x.1 t) : Dfs g ord ((t, 0) :: stk) := by
  have up : ∀ y, y ∈ ord ++ stk.map (·.1) → y ∈ ord ++ ((t, 0) :: stk).map (·.1) := fun y hy => by
    rcases List.mem_append.mp hy with k | k
    · exact List.mem_append.mpr (.inl k)
    · exact List.mem_append.mpr (.inr (List.mem_cons_of_mem _ k))
  refine ⟨?_, fun u hu => ?_, ?_, fun x hx => ?_, fun b hb y hy => up y (h.bl b hb y hy), h.sp⟩
  · show (ord ++ t :: stk.map (·.1)).Nodup
    have hn := h.nd
    rw [List.nodup_append] at hn ⊢
    refine ⟨hn.1, ?_, fun a ha b hb => ?_⟩
    · rw [List.nodup_cons]
      exact ⟨fun z => ht (List.mem_append.mpr (.inr z)), hn.2.1⟩
    · rcases List.mem_cons.mp hb with rfl | hb
      · exact fun z => ht (List.mem_append.mpr (.inl (z ▸ ha)))
      · exact hn.2.2 a ha b hb
  · rcases List.mem_append.mp hu with k | k
    · exact h.lt u (List.mem_append.mpr (.inl k))
    · rcases List.mem_cons.mp k with rfl | k
      · exact hl
      · exact h.lt u (List.mem_append.mpr (.inr k))
  · rw [List.pairwise_cons]
    exact ⟨fun x hx => hr x hx, h.ch⟩
  · rcases List.mem_cons.mp hx with rfl | hx
    · exact ⟨Nat.zero_le _, fun i y hi => absurd hi (Nat.not_lt_zero _)⟩
    · exact ⟨(h.fo x hx).1, fun i y hi hy => up y ((h.fo x hx).2 i y hi hy)⟩
/-- the top is left -/
theorem Dfs.pop {g : G} {ord : List Nat} {n : Nat} {stk : List (Nat × Nat)} (h : Dfs g ord ((n, (row g n).length) :: stk)) : Dfs g (ord ++ [n]) stk := by
  have perm : ∀ y, y ∈ ord ++ ((n, (row g n).length) :: stk).map (·.1) ↔ y ∈ (ord ++ [n]) ++ stk.map (·.1) := fun y => by
    rw [List.append_assoc]; rfl
  have succ : ∀ y ∈ row g n, y ∈ ord ++ ((n, (row g n).length) :: stk).map (·.1) := fun y hy => by
    obtain ⟨i, hi⟩ := List.mem_iff_getElem?.mp hy
    have hl : i < (row g n).length := by
      rcases Nat.lt_or_ge i (row g n).length with k | k
      · exact k
      · rw [List.getElem?_eq_none k] at hi; cases hi
    exact (h.fo _ List.mem_cons_self).2 i y hl hi
  have ch := h.ch
  rw [List.pairwise_cons] at ch
  refine ⟨?_, fun u hu => h.lt u ((perm u).mpr hu), ch.2, fun x hx => ?_, fun b hb y hy => ?_, fun A u B e b hb y hy => ?_⟩
  · have := h.nd
    rw [List.append_assoc]
    exact this
  · have := h.fo x (List.mem_cons_of_mem _ hx)
    exact ⟨this.1, fun i y hi hy => (perm y).mp (this.2 i y hi hy)⟩
  · rcases List.mem_append.mp hb with k | k
    · exact (perm y).mp (h.bl b k y hy)
    · rw [List.mem_singleton] at k
      subst k
      exact (perm y).mp (succ y hy)
  · rcases List.eq_nil_or_concat B with rfl | ⟨B', z, rfl⟩
    · have e2 := List.append_inj' e rfl
      have eA := e2.1
      have eu : n = u := (List.cons.inj e2.2).1
      subst eA; subst eu
      have hy' : y ∈ ord ++ ((n, (row g n).length) :: stk).map (·.1) := by
        rcases List.mem_append.mp hb with k | k
        · exact h.bl b k y hy
        · rw [List.mem_singleton] at k
          subst k
          exact succ y hy
      rcases List.mem_append.mp hy' with k | k
      · exact .inl (List.mem_append.mpr (.inl k))
      · rcases List.mem_cons.mp k with k | k
        · exact .inl (List.mem_append.mpr (.inr (by rw [k]; exact List.mem_singleton.mpr rfl)))
        · obtain ⟨x, hx, rfl⟩ := List.mem_map.mp k
          exact .inr (ch.1 x hx)
    · have e2 : ord ++ [n] = (A ++ u :: B') ++ [z] := by rw [e, List.concat_eq_append, List.append_assoc]; rfl
      exact h.sp A u B' (List.append_inj' e2 rfl).1 b hb y hy

/-- what a finished search has -/
structure Fin (g : G) (ord : List Nat) : Prop where
  nd : ord.Nodup
  all : ∀ u, u ∈ ord ↔ u < g.length
  sp : ∀ A u B, ord = A ++ u :: B → ∀ b ∈ A ++ [u], ∀ y ∈ row g b, y ∈ A ++ [u] ∨ Rc g y u
theorem Dfs.fin {g : G} {ord : List Nat} (h : Dfs g ord []) (k : ∀ u, u < g.length → u ∈ ord) : Fin g ord := by
  have hn := h.nd
  simp only [List.map_nil, List.append_nil] at hn
  exact ⟨hn, fun u => ⟨fun z => h.lt u (List.mem_append.mpr (.inl z)), k u⟩, h.sp⟩
theorem nodup_split {A B : List Nat} {w : Nat} (h : (A ++ w :: B).Nodup) : w ∉ A ∧ w ∉ B ∧ ∀ a ∈ A, a ∉ B := by
  rw [List.nodup_append, List.nodup_cons] at h
  exact ⟨fun z => h.2.2 w z w List.mem_cons_self rfl, h.2.1.1, fun a ha hb => h.2.2 a ha a (List.mem_cons_of_mem _ hb) rfl⟩
/-- from a node that may not stand behind s (nor its companions) no way leads to s, but in a circle -/
theorem Fin.back {g : G} {A B : List Nat} {s u : Nat} (ok : Ok g) (h : Fin g (A ++ s :: B)) (hu : u < g.length) (r : Rc g u s) (no : ∀ b ∈ B, ¬ Mu g u b) : Rc g s u := by
  obtain ⟨A1, w, B1, e, hw, hB⟩ := last_split (P := fun x => Mu g u x) (l := A ++ s :: B) ⟨u, (h.all u).mpr hu, Mu.refl g u⟩
  have nd := h.nd
  have hwm : w ∈ A ++ s :: B := by rw [e]; simp
  by_cases ews : w = s
  · subst ews; exact hw.2
  have hwA : w ∈ A := by
    rcases List.mem_append.mp hwm with k | k
    · exact k
    · rcases List.mem_cons.mp k with k | k
      · exact absurd k ews
      · exact absurd hw (no w k)
  -- s stands behind w
  have hsB : s ∉ A1 ++ [w] := by
    intro hs
    have hs1 : s ∈ A1 := by
      rcases List.mem_append.mp hs with k | k
      · exact k
      · exact absurd (List.mem_singleton.mp k).symm ews
    -- then A is shorter than A1: w ∈ A stands ahead of s, so w ∈ A1
    obtain ⟨C, D, eC⟩ := List.append_of_mem hs1
    have e2 : A ++ s :: B = C ++ s :: (D ++ w :: B1) := by rw [e, eC, List.append_assoc]; rfl
    have nd2 := nd
    rw [e2] at nd2
    have n1 := nodup_split nd
    have n2 := nodup_split nd2
    have : w ∈ B := by
      rcases List.append_eq_append_iff.mp e2 with ⟨F, h1, h2⟩ | ⟨F, h1, h2⟩
      · cases F with
        | nil => rw [List.nil_append] at h2; rw [(List.cons.inj h2).2]; simp
        | cons x F =>
          have h3 := List.cons.inj h2
          exact absurd (by rw [h1, ← h3.1]; simp) n2.1
      · cases F with
        | nil => rw [List.nil_append] at h2; rw [← (List.cons.inj h2).2]; simp
        | cons x F =>
          have h3 := List.cons.inj h2
          exact absurd (by rw [h1, ← h3.1]; simp) n1.1
    exact n1.2.2 w hwA this
  have huA : u ∈ A1 ++ [w] := by
    have hum : u ∈ A1 ++ w :: B1 := by rw [← e]; exact (h.all u).mpr hu
    rcases List.mem_append.mp hum with k | k
    · exact List.mem_append.mpr (.inl k)
    · rcases List.mem_cons.mp k with k | k
      · rw [k]; simp
      · exact absurd (Mu.refl g u) (hB u k)
  obtain ⟨b, y, hb, hy, hny, r1, r2⟩ := r.cross (S := fun x => x ∈ A1 ++ [w]) huA hsB
  rcases h.sp A1 w B1 e b hb y hy with k | k
  · exact absurd k hny
  · have mu : Mu g u y := ⟨r1.snoc hy, k.trans hw.2⟩
    have hym : y ∈ A1 ++ w :: B1 := by rw [← e]; exact (h.all y).mpr (ok b y hy)
    rcases List.mem_append.mp hym with z | z
    · exact absurd (List.mem_append.mpr (.inl z)) hny
    · rcases List.mem_cons.mp z with z | z
      · exact absurd (by rw [z]; simp) hny
      · exact absurd mu (hB y z)

/-! ### components: homes are numbers of nodes, -1 for none -/
/-- H u is u's number if it has one -/
structure Cmp (g : G) (H : Nat → Option Nat) (c : Nat) : Prop where
  lt : ∀ u i, H u = some i → i < c ∧ u < g.length
  eq : ∀ u v i j, H u = some i → H v = some j → (i = j ↔ Mu g u v)
  mu : ∀ u v i, H u = some i → Mu g u v → H v ≠ none
  ed : ∀ u v j, E g u v → u < g.length → H v = some j → ∃ i, H u = some i ∧ i ≤ j
  us : ∀ i, i < c → ∃ u, H u = some i
theorem Cmp.nil (g : G) : Cmp g (fun _ => none) 0 := ⟨fun _ _ h => (by cases h), fun _ _ _ _ h => (by cases h), fun _ _ _ h => (by cases h), fun _ _ _ _ _ h => (by cases h), fun i h => absurd h (Nat.not_lt_zero i)⟩
theorem Cmp.rc {g : G} {H : Nat → Option Nat} {c : Nat} (h : Cmp g H c) {u v j : Nat} (ok : Ok g) (r : Rc g u v) (hu : u < g.length) (hv : H v = some j) : ∃ i, H u = some i ∧ i ≤ j := by
  induction r with
  | refl _ => exact ⟨j, hv, Nat.le_refl _⟩
  | step e _ ih =>
    obtain ⟨i, h1, h2⟩ := ih (ok _ _ e) hv
    obtain ⟨i', h3, h4⟩ := h.ed _ _ i e hu h1
    exact ⟨i', h3, Nat.le_trans h4 h2⟩
/-- one component more: the set S of the nodes without a number from which start can be reached -/
theorem Cmp.more {g : G} {H H' : Nat → Option Nat} {c s : Nat} {A B : List Nat} (ok : Ok g) (h : Cmp g H c) (f : Fin g (A ++ s :: B)) (hB : ∀ b ∈ B, H b ≠ none) (hs : H s = none)
    (h1 : ∀ u i, H u = some i → H' u = some i) (h2 : ∀ u i, H u = none → H' u = some i → i = c ∧ u < g.length ∧ Rc g u s) (h3 : ∀ u, u < g.length → Rc g u s → H u = none → H' u = some c) : Cmp g H' (c + 1) := by
  have hsl : s < g.length := (f.all s).mp (by simp)
  -- the new ones are mutual with s
  have new : ∀ u, H u = none → u < g.length → Rc g u s → Mu g u s := fun u hu hl r => ⟨r, f.back ok hl r fun b hb m => by
    cases e : H b with
    | none => exact hB b hb e
    | some i => exact h.mu b u i e m.symm hu⟩
  have old : ∀ u i, H' u = some i → H u = some i ∨ (H u = none ∧ i = c ∧ u < g.length ∧ Mu g u s) := fun u i e => by
    cases k : H u with
    | none =>
      obtain ⟨e1, e2, e3⟩ := h2 u i k e
      exact .inr ⟨rfl, e1, e2, new u k e2 e3⟩
    | some j =>
      rw [h1 u j k] at e
      exact .inl e
  refine ⟨fun u i e => ?_, fun u v i j e1 e2 => ?_, fun u v i e m => ?_, fun u v j e hu ev => ?_, fun i hi => ?_⟩
  · rcases old u i e with k | ⟨_, k1, k2, _⟩
    · exact ⟨Nat.lt_succ_of_lt (h.lt u i k).1, (h.lt u i k).2⟩
    · exact ⟨by omega, k2⟩
  · rcases old u i e1 with k | ⟨a1, a2, a3, a4⟩ <;> rcases old v j e2 with l | ⟨b1, b2, b3, b4⟩
    · exact h.eq u v i j k l
    · refine ⟨fun z => ?_, fun m => absurd b1 (h.mu u v i k m)⟩
      have := (h.lt u i k).1
      omega
    · refine ⟨fun z => ?_, fun m => absurd a1 (h.mu v u j l m.symm)⟩
      have := (h.lt v j l).1
      omega
    · exact ⟨fun _ => a4.trans b4.symm, fun _ => by rw [a2, b2]⟩
  · rcases old u i e with k | ⟨a1, a2, a3, a4⟩
    · intro z
      cases e' : H v with
      | none => exact h.mu u v i k m e'
      | some j => rw [h1 v j e'] at z; cases z
    · intro z
      have hv : v < g.length := ok.rc m.1 a3
      cases e' : H v with
      | none => rw [h3 v hv (m.2.trans a4.1) e'] at z; cases z
      | some j => rw [h1 v j e'] at z; cases z
  · rcases old v j ev with k | ⟨a1, a2, a3, a4⟩
    · obtain ⟨i, k1, k2⟩ := h.ed u v j e hu k
      exact ⟨i, h1 u i k1, k2⟩
    · cases k : H u with
      | none => exact ⟨c, h3 u hu (.step e a4.1) k, by omega⟩
      | some i => exact ⟨i, h1 u i k, by have := (h.lt u i k).1; omega⟩
  · rcases Nat.lt_or_ge i c with k | k
    · obtain ⟨u, e⟩ := h.us i k
      exact ⟨u, h1 u i e⟩
    · exact ⟨s, by rw [h3 s hsl (.refl s) hs]; congr 1; omega⟩
/-- finished: every node has a number -/
structure Comps (g : G) (h : List Nat) (c : Nat) : Prop where
  len : h.length = g.length
  lt : ∀ i ∈ h, i < c
  eq : ∀ u v i j, h[u]? = some i → h[v]? = some j → (i = j ↔ Mu g u v)
  ed : ∀ u v i j, E g u v → h[u]? = some i → h[v]? = some j → i ≤ j
  us : ∀ i, i < c → i ∈ h
/-- on a cycle -/
def Cyc (g : G) (u : Nat) : Prop := ∃ v, E g u v ∧ Rc g v u
theorem Rc.cases_step {g : G} {u v : Nat} (r : Rc g u v) : u = v ∨ ∃ w, E g u w ∧ Rc g w v := by
  cases r with
  | refl _ => exact .inl rfl
  | step e r => exact .inr ⟨_, e, r⟩
/-- a node's component has an inner edge exactly if the node lies on a cycle -/
theorem cyc_iff {g : G} {h : List Nat} {c : Nat} (ok : Ok g) (k : Comps g h c) {u i : Nat} (hu : h[u]? = some i) : Cyc g u ↔ ∃ a b, E g a b ∧ h[a]? = some i ∧ h[b]? = some i := by
  have hl : ∀ {x j : Nat}, h[x]? = some j → x < g.length := fun {x j} e => by
    rw [← k.len]
    rcases Nat.lt_or_ge x h.length with z | z
    · exact z
    · rw [List.getElem?_eq_none z] at e; cases e
  constructor
  · rintro ⟨v, e, r⟩
    have hv : v < h.length := by rw [k.len]; exact ok u v e
    refine ⟨u, v, e, hu, ?_⟩
    have e2 := List.getElem?_eq_getElem hv
    rw [e2]
    congr 1
    exact ((k.eq u v i _ hu e2).mpr ⟨.one e, r⟩).symm
  · rintro ⟨a, b, e, ha, hb⟩
    have m1 := (k.eq u a i i hu ha).mp rfl
    have m2 := (k.eq u b i i hu hb).mp rfl
    rcases m1.1.cases_step with rfl | ⟨w, e1, r1⟩
    · exact ⟨b, e, m2.2⟩
    · exact ⟨w, e1, r1.trans (.step e m2.2)⟩

/-! ### all edges turned round -/
def Rev (g t : G) : Prop := t.length = g.length ∧ ∀ u v, E t v u ↔ (E g u v ∧ u < g.length ∧ v < g.length)
/-! ### what can be reached -/
theorem rc_sets {g : G} {S : Nat → Prop} (cl : ∀ u v, S u → E g u v → S v) {u v : Nat} (r : Rc g u v) (hu : S u) : S v := by
  induction r with
  | refl _ => exact hu
  | step e _ ih => exact ih (cl _ _ hu e)
/-! ### counting -/
def wsum (w : Nat → Nat) (l : List Nat) : Nat := (l.map w).foldr (· + ·) 0
theorem wsum_cons (w : Nat → Nat) (x : Nat) (l : List Nat) : wsum w (x :: l) = w x + wsum w l := rfl
theorem wsum_append (w : Nat → Nat) (l m : List Nat) : wsum w (l ++ m) = wsum w l + wsum w m := by
  induction l with
  | nil => simp [wsum]
  | cons x l ih => rw [List.cons_append, wsum_cons, wsum_cons, ih]; omega
def below (w : Nat → Nat) : Nat → Nat
  | 0 => 0
  | n + 1 => below w n + w n
theorem wsum_erase (w : Nat → Nat) (x : Nat) : ∀ {l : List Nat}, x ∈ l → wsum w l = w x + wsum w (l.erase x)
  | [], h => by cases h
  | y :: l, h => by
    by_cases e : y = x
    · subst e
      rw [List.erase_cons_head]; rfl
    · rw [List.erase_cons_tail (by simpa using e), wsum_cons, wsum_cons]
      rcases List.mem_cons.mp h with k | k
      · exact absurd k.symm e
      · rw [wsum_erase w x k]; omega
theorem wsum_le (w : Nat → Nat) : ∀ (n : Nat) {l : List Nat}, l.Nodup → (∀ x ∈ l, x < n) → wsum w l ≤ below w n
  | 0, l, _, h => by
    cases l with
    | nil => exact Nat.le_refl 0
    | cons x l => exact absurd (h x List.mem_cons_self) (Nat.not_lt_zero x)
  | n + 1, l, nd, h => by
    by_cases k : n ∈ l
    · rw [wsum_erase w n k]
      have := wsum_le w n (l := l.erase n) (nd.erase n) fun x hx => by
        have h1 := h x (List.mem_of_mem_erase hx)
        have h2 : x ≠ n := fun z => by
          rw [z] at hx
          exact (List.Nodup.mem_erase_iff nd).mp hx |>.1 rfl
        omega
      show _ ≤ below w n + w n
      omega
    · have := wsum_le w n nd fun x hx => by
        have h1 := h x hx
        have h2 : x ≠ n := fun z => k (z ▸ hx)
        omega
      show _ ≤ below w n + w n
      omega
def steps (g : G) (ord : List Nat) (stk : List (Nat × Nat)) : Nat := wsum (fun u => (row g u).length + 1) ord + wsum (·) (stk.map (·.2))
theorem steps_lt {g : G} {ord : List Nat} {stk : List (Nat × Nat)} {x : Nat × Nat} (h : Dfs g ord (x :: stk)) : steps g ord (x :: stk) < below (fun u => (row g u).length + 1) g.length := by
  have h1 := wsum_le (fun u => (row g u).length + 1) g.length h.nd h.lt
  rw [wsum_append] at h1
  have h2 : ∀ l : List (Nat × Nat), (∀ y ∈ l, y.2 ≤ (row g y.1).length) → wsum (·) (l.map (·.2)) + l.length ≤ wsum (fun u => (row g u).length + 1) (l.map (·.1)) := by
    intro l
    induction l with
    | nil => intro _; exact Nat.le_refl 0
    | cons y l ih =>
      intro hl
      have a := hl y List.mem_cons_self
      have b := ih fun z hz => hl z (List.mem_cons_of_mem _ hz)
      simp only [List.map_cons, wsum_cons, List.length_cons]
      omega
  have h3 := h2 (x :: stk) fun y hy => (h.fo y hy).1
  simp only [List.length_cons] at h3
  unfold steps
  omega
theorem steps_pop {g : G} {ord : List Nat} {n : Nat} {stk : List (Nat × Nat)} : steps g (ord ++ [n]) stk = steps g ord ((n, (row g n).length) :: stk) + 1 := by
  unfold steps
  rw [wsum_append]
  simp only [List.map_cons, wsum_cons]
  show _ + ((row g n).length + 1 + 0) + _ = _
  omega
theorem steps_skip {g : G} {ord : List Nat} {n f : Nat} {stk : List (Nat × Nat)} : steps g ord ((n, f + 1) :: stk) = steps g ord ((n, f) :: stk) + 1 := by
  unfold steps
  simp only [List.map_cons, wsum_cons]
  omega
theorem steps_push {g : G} {ord : List Nat} {n : Nat} {stk : List (Nat × Nat)} : steps g ord ((n, 0) :: stk) = steps g ord stk := by
  unfold steps
  simp only [List.map_cons, wsum_cons]
  omega
end Gr
namespace Bx
open PySem PySem.Spec PyProof.Rows L2
abbrev VN (n : Nat) : V := .int (n : Int)
def Sq (K : PySem.W.Frag) (H : Hp) (a : Addr) (xs : List V) : Prop := SqL K H a xs ∨ SqT K H a xs
theorem sqL_same {K : PySem.W.Frag} {H H' : Hp} {a : Addr} {xs : List V} (s : Same H H') (h : SqL K H a xs) : SqL K H' a xs := by
  rcases h with h | h
  · exact .inl (by
      rcases h with h | ⟨o, h⟩
      · exact .inl (s _ _ h)
      · exact .inr ⟨o, s _ _ h⟩)
  · exact .inr h
theorem sqT_same {K : PySem.W.Frag} {H H' : Hp} {a : Addr} {xs : List V} (s : Same H H') (h : SqT K H a xs) : SqT K H' a xs := by
  rcases h with h | h
  · exact .inl (by
      rcases h with h | ⟨o, h⟩
      · exact .inl (s _ _ h)
      · exact .inr ⟨o, s _ _ h⟩)
  · exact .inr h
theorem Sq.same {K : PySem.W.Frag} {H H' : Hp} {a : Addr} {xs : List V} (s : Same H H') (h : Sq K H a xs) : Sq K H' a xs := by
  rcases h with h | h
  · exact .inl (sqL_same s h)
  · exact .inr (sqT_same s h)
theorem nw {H H1 : Hp} {p : Addr} {o : HO} (hp : H p = none) (e : upd H p o = H1) : Same H H1 ∧ H1 p = some o := e ▸ ⟨same_new hp, upd_same⟩
theorem mw {H0 H H1 : Hp} {p : Addr} {o : HO} (s : Same H0 H) (hp : H0 p = none) (e : upd H p o = H1) : Same H0 H1 ∧ H1 p = some o ∧ ∀ q, q ≠ p → H1 q = H q := e ▸ ⟨fun b x hb => by
  rw [upd_ne (ne_of_none hb hp)]
  exact s _ _ hb, upd_same, fun q hq => upd_ne hq⟩
theorem mwt {H H1 : Hp} {p : Addr} {o : HO} {l : List V} (h : H p = some (.lst l)) (e : upd H p o = H1) : ∀ b xs, H b = some (.tup xs) → H1 b = some (.tup xs) := e ▸ fun b xs hb => by
  rw [upd_ne (fun z => by rw [z, h] at hb; cases hb)]
  exact hb
theorem Same.fr {H H' : Hp} {p : Addr} (s : Same H H') (h : H' p = none) : H p = none := by
  cases e : H p with
  | none => rfl
  | some o => rw [s _ _ e] at h; cases h
/-- a graph, by rows of lists or tuples -/
def GrAt (K : PySem.W.Frag) (H : Hp) (r : Addr) (g : Gr.G) : Prop := ∃ as : List Addr, Sq K H r (as.map V.ref) ∧ as.length = g.length ∧ ∀ i a, as[i]? = some a → Sq K H a ((Gr.row g i).map VN)
theorem GrAt.same {K : PySem.W.Frag} {H H' : Hp} {r : Addr} {g : Gr.G} (s : Same H H') (h : GrAt K H r g) : GrAt K H' r g := by
  obtain ⟨as, h1, h2, h3⟩ := h
  exact ⟨as, h1.same s, h2, fun i a e => (h3 i a e).same s⟩
theorem iteB_t {c : Bool} {A B : Prop} (e : c = true) (h : A) : if c = true then A else B := by rw [if_pos e]; exact h
theorem iteB_f {c : Bool} {A B : Prop} (e : c = false) (h : B) : if c = true then A else B := by rw [if_neg (by rw [e]; exact Bool.false_ne_true)]; exact h
theorem snocg {α : Type} {xs : List α} {x y : α} {j : Nat} (h : (xs ++ [x])[j]? = some y) : (j < xs.length ∧ xs[j]? = some y) ∨ (j = xs.length ∧ y = x) := by
  rcases Nat.lt_or_ge j xs.length with c | c
  · rw [List.getElem?_append_left c] at h
    exact .inl ⟨c, h⟩
  · rw [List.getElem?_append_right c] at h
    have e : j - xs.length = 0 := by
      cases e : j - xs.length with
      | zero => rfl
      | succ n => rw [e] at h; cases h
    rw [e] at h
    exact .inr ⟨by omega, (Option.some.inj h).symm⟩
theorem nats_get {xs : List Nat} {j : Nat} {y : V} (h : (xs.map VN)[j]? = some y) : ∃ t, xs[j]? = some t ∧ y = VN t := by
  rw [List.getElem?_map] at h
  cases e : xs[j]? with
  | none => rw [e] at h; cases h
  | some t => rw [e] at h; exact ⟨t, rfl, (Option.some.inj h).symm⟩
theorem refsg {as : List Addr} {i : Nat} {v : V} (h : (as.map V.ref)[i]? = some v) : ∃ a, as[i]? = some a ∧ v = .ref a := by
  rw [List.getElem?_map] at h
  cases e : as[i]? with
  | none => rw [e] at h; cases h
  | some z => rw [e] at h; exact ⟨z, rfl, (Option.some.inj h).symm⟩
theorem mapg {α β : Type} {f : α → β} {xs : List α} {i : Nat} {y : β} (h : (xs.map f)[i]? = some y) : ∃ x, xs[i]? = some x ∧ y = f x := by
  rw [List.getElem?_map] at h
  cases e : xs[i]? with
  | none => rw [e] at h; cases h
  | some z => rw [e] at h; exact ⟨z, rfl, (Option.some.inj h).symm⟩
/-- an item by its number, as atI wants it -/
theorem atN {α : Type} {f : α → V} {xs : List α} {i : Nat} {x : α} (h : xs[i]? = some x) : atI (xs.map f) (i : Int) = some (f x) := atI_nat (by rw [List.getElem?_map, h]; rfl)
theorem lt_of_get {α : Type} {xs : List α} {i : Nat} {x : α} (h : xs[i]? = some x) : i < xs.length := (List.getElem?_eq_some_iff.mp h).1
theorem nd_inj {α : Type} {xs : List α} (h : xs.Nodup) {i j : Nat} {x : α} (h1 : xs[i]? = some x) (h2 : xs[j]? = some x) : i = j := (List.getElem?_inj (lt_of_get h1) h).mp (h1.trans h2.symm)
theorem for_sqB {K : PySem.W.Frag} {i : Nat} {a : Addr} {xs : List V} {g : TG} {tb : TS} {D : Ends} {σ : L2.St} {H0 H : Hp} (hv : σ[i]? = some (some (.ref a))) (hq : SeqV H0 a xs) (Pv : Nat → L2.St → Hp → Prop) (h0 : Pv 0 σ H) (hS : ∀ i σ' H', Pv i σ' H' → Same H0 H')
    (hs : ∀ i x σ H, xs[i]? = some x → Pv i σ H → g x σ H fun σ2 H2 => tb { D with nx := Pv (i + 1), ct := Pv (i + 1), bk := D.nx } σ2 H2) (hd : ∀ σ H, Pv xs.length σ H → D.nx σ H) : tFor (iSeq K (tVar i)) g tb D σ H := by
  rcases hq with h | h
  · exact .inl ⟨_, hv, a, rfl, ⟨_, .of (hS 0 σ H h0 _ _ h)⟩, for_list Pv h0 (fun i σ' H' _ p => .of (hS i σ' H' p _ _ h)) hs hd⟩
  · exact .inr ⟨_, hv, a, rfl, ⟨_, .of (hS 0 σ H h0 _ _ h)⟩, for_tup Pv h0 (fun i σ' H' _ p => .of (hS i σ' H' p _ _ h)) hs hd⟩
/-- a dict comprehension over anything walked -/
theorem dc_it {J : It} {n : Nat} {G : Hp → Prop} {Y : Nat → Hp → V → Hp → Prop} (w : Walk J n G Y) {g : TG} {tt : TT} {tk tv : TE} {vs : List Nat} {σ : L2.St} {H1 : Hp} {D : Addr} {Qd : Hp → Prop} (Pv : Nat → Hp → Prop) (h0 : Pv 0 (upd H1 D (.dK []))) (hG : ∀ i H, i ≤ n → Pv i H → G H)
    (hs : ∀ i x H H', i < n → Pv i H → Y i H x H' → g x (wipe σ vs) H' fun σ2 H2 => wipe σ2 vs = wipe σ vs ∧ tt σ2 H2 fun b H3 =>
      if b = true then tk σ2 H3 fun y H4 => tv σ2 H4 fun z H5 => ∃ kvs k, y = kV k ∧ H5 D = some (.dK kvs) ∧ kvs.length < sizeLine ∧ Pv (i + 1) (upd H5 D (.dK (putK kvs k z))) else Pv (i + 1) H3) (hd : ∀ H, Pv n H → Qd H) :
    ∃ W : Nat → Nat → Hp → Prop, (∃ m, W 0 m (upd H1 D (.dK []))) ∧ ∀ i m H, W i m H →
      (J.stop i H ∧ Qd H) ∨ (J.go i H ∧ ∃ Nx : Hp → Prop, (∀ H', Nx H' → ∃ m', m' < m ∧ W (i + 1) m' H') ∧ ∀ x H', J.yld i H x H' → g x (wipe σ vs) H' fun σ2 H2 => wipe σ2 vs = wipe σ vs ∧ tt σ2 H2 fun b H3 =>
        if b = true then tk σ2 H3 fun y H4 => tv σ2 H4 fun z H5 => ∃ kvs k, y = kV k ∧ H5 D = some (.dK kvs) ∧ kvs.length < sizeLine ∧ Nx (upd H5 D (.dK (putK kvs k z))) else Nx H3) := by
  refine ⟨fun i m H => m = n - i ∧ i ≤ n ∧ Pv i H, ⟨n, by simp, Nat.zero_le _, h0⟩, ?_⟩
  rintro i m H ⟨rfl, hi, p⟩
  have q := hG i H hi p
  by_cases hlt : i < n
  · refine .inr ⟨w.goes i H hlt q, Pv (i + 1), fun H' p' => ⟨n - (i + 1), by omega, rfl, hlt, p'⟩, fun x H' y => hs i x H H' hlt p (w.yields i H x H' hlt q y)⟩
  · have e : i = n := by omega
    subst e
    exact .inl ⟨w.stops H q, hd H p⟩
/-- the numbers of the nodes of a list, as a dict -/
def numK (us : List Nat) : List (L2.Key × V) := us.zipIdx.map fun p => (Sum.inl (p.1 : Int), VN p.2)
theorem numK_len (us : List Nat) : (numK us).length = us.length := by unfold numK; rw [List.length_map, List.length_zipIdx]
theorem numK_snoc (us : List Nat) (u : Nat) : numK (us ++ [u]) = numK us ++ [(Sum.inl (u : Int), VN us.length)] := by
  unfold numK
  rw [List.zipIdx_append, List.map_append]
  simp
theorem numK_put {us : List Nat} {u : Nat} (h : u ∉ us) : putK (numK us) (Sum.inl (u : Int)) (VN us.length) = numK (us ++ [u]) := by
  rw [numK_snoc]
  unfold putK
  rw [if_neg ?_]
  intro z
  rw [List.any_eq_true] at z
  obtain ⟨kv, hm, e⟩ := z
  have e := of_decide_eq_true e
  unfold numK at hm
  obtain ⟨p, hp, rfl⟩ := List.mem_map.mp hm
  have e2 : (p.1 : Int) = (u : Int) := Sum.inl.inj e
  have := List.mem_zipIdx' hp
  exact h (by have h3 : p.1 = u := by omega
              rw [← h3]
              exact this.2 ▸ List.getElem_mem _)
theorem numK_valF (z : Int) : ∀ (us : List Nat) (k : Nat), ((us.zipIdx k).map fun p => ((Sum.inl (p.1 : Int) : L2.Key), VN p.2)).find? (fun kv => decide (kv.1 = (Sum.inl z : L2.Key))) = if (z.toNat ∈ us ∧ 0 ≤ z) then some (Sum.inl z, VN (us.idxOf z.toNat + k)) else none
  | [], k => by simp
  | u :: us, k => by
    rw [List.zipIdx_cons, List.map_cons, List.find?_cons]
    by_cases e : (u : Int) = z
    · have hz : z.toNat = u := by omega
      rw [decide_eq_true (by show (Sum.inl (u : Int) : L2.Key) = Sum.inl z; rw [e]), if_pos ⟨by rw [hz]; exact List.mem_cons_self, by omega⟩, hz, List.idxOf_cons_self, Nat.zero_add]
      show some ((Sum.inl (u : Int) : L2.Key), VN k) = _
      rw [e]
    · rw [decide_eq_false (by intro h; exact e (Sum.inl.inj h)), numK_valF z us (k + 1)]
      by_cases h0 : 0 ≤ z
      · have hne : u ≠ z.toNat := by omega
        have hiff : (z.toNat ∈ u :: us ∧ 0 ≤ z) ↔ (z.toNat ∈ us ∧ 0 ≤ z) := by simp [hne.symm]
        simp only [hiff]
        split
        · have e2 : (u :: us).idxOf z.toNat + k = us.idxOf z.toNat + (k + 1) := by
            rw [List.idxOf_cons, show (u == z.toNat) = false by simpa using hne]
            show us.idxOf z.toNat + 1 + k = _
            omega
          rw [e2]
        · rfl
      · rw [if_neg (fun q => h0 q.2), if_neg (fun q => h0 q.2)]
theorem numK_val (us : List Nat) (z : Int) : valV (numK us) (Sum.inl z : L2.Key) = if (z.toNat ∈ us ∧ 0 ≤ z) then some (VN (us.idxOf z.toNat)) else none := by
  unfold valV numK
  have := numK_valF z us 0
  rw [show us.zipIdx = us.zipIdx 0 from rfl, this]
  split <;> rfl
end Bx
/-! What `lives` says: a node lives exactly if an infinite path from it visits good nodes again and again. -/
namespace Lv
section
variable (mv : Nat → List Int) (goods : Nat → Bool) (n : Nat)
def hit (kept reach : Nat → Bool) (ts : List Int) : Bool := ts.any fun t => kept t.toNat && (goods t.toNat || reach t.toNat)
def stp (kept : Nat → Bool) (k : Nat) (p : (Nat → Bool) × Bool) : (Nat → Bool) × Bool :=
  if (kept k && !p.1 k && hit goods kept p.1 (mv k)) = true then (fun t => if t = k then true else p.1 t, true) else p
def pas (kept : Nat → Bool) : Nat → (Nat → Bool) × Bool → (Nat → Bool) × Bool
  | 0, p => p
  | j + 1, p => stp mv goods kept (n - 1 - j) (pas kept j p)
def inn (kept : Nat → Bool) : Nat → (Nat → Bool) → Nat → Bool
  | 0, r => r
  | f + 1, r => if (pas mv goods n kept n (r, false)).2 = true then inn kept f (pas mv goods n kept n (r, false)).1 else (pas mv goods n kept n (r, false)).1
def eqB (r k : Nat → Bool) : Bool := decide (∀ t, t < n → r t = k t)
def out : Nat → (Nat → Bool) → Nat → Bool
  | 0, k => k
  | f + 1, k => if eqB n (inn mv goods n k (n + 1) fun _ => false) k = true then k else out f (inn mv goods n k (n + 1) fun _ => false)
def lives (ss : List Int) : Bool := ss.any fun s => out mv goods n (n + 1) (fun _ => true) s.toNat
end

/-! counting -/
def cnt (f : Nat → Bool) : Nat → Nat
  | 0 => 0
  | n + 1 => cnt f n + (if f n = true then 1 else 0)
theorem cnt_le (f : Nat → Bool) : ∀ n, cnt f n ≤ n
  | 0 => Nat.le_refl 0
  | n + 1 => by
    have := cnt_le f n
    unfold cnt
    split <;> omega
theorem cnt_mono {f g : Nat → Bool} : ∀ n, (∀ t, t < n → f t = true → g t = true) → cnt f n ≤ cnt g n
  | 0, _ => Nat.le_refl 0
  | n + 1, h => by
    have := cnt_mono n fun t ht => h t (by omega)
    unfold cnt
    by_cases a : f n = true
    · rw [if_pos a, if_pos (h n (by omega) a)]
      omega
    · rw [if_neg a]
      omega
theorem cnt_lt {f g : Nat → Bool} : ∀ n, (∀ t, t < n → f t = true → g t = true) → (∃ t, t < n ∧ g t = true ∧ f t = false) → cnt f n < cnt g n
  | 0, _, ⟨t, ht, _⟩ => absurd ht (Nat.not_lt_zero t)
  | n + 1, h, ⟨t, ht, gt, ft⟩ => by
    unfold cnt
    rcases Nat.lt_or_ge t n with y | y
    · have := cnt_lt n (fun t ht => h t (by omega)) ⟨t, y, gt, ft⟩
      by_cases a : f n = true
      · rw [if_pos a, if_pos (h n (by omega) a)]
        omega
      · rw [if_neg a]
        omega
    · have e : t = n := by omega
      subst e
      have := cnt_mono t fun s hs => h s (by omega)
      rw [gt, ft, if_pos rfl, if_neg (by decide)]
      omega
theorem cnt_all (n : Nat) : cnt (fun _ => true) n = n := by
  induction n with
  | zero => rfl
  | succ n ih =>
    unfold cnt
    rw [ih, if_pos rfl]
section
variable {mv : Nat → List Int} {goods : Nat → Bool} {n : Nat}
theorem hit_iff {kept reach : Nat → Bool} {ts : List Int} : hit goods kept reach ts = true ↔ ∃ t ∈ ts, kept t.toNat = true ∧ (goods t.toNat = true ∨ reach t.toNat = true) := by
  unfold hit
  rw [List.any_eq_true]
  constructor
  · rintro ⟨t, ht, h⟩
    rw [Bool.and_eq_true_iff, Bool.or_eq_true_iff] at h
    exact ⟨t, ht, h⟩
  · rintro ⟨t, ht, h⟩
    refine ⟨t, ht, ?_⟩
    rw [Bool.and_eq_true_iff, Bool.or_eq_true_iff]
    exact h
/-- the condition under which a step fires -/
def Fire (mv : Nat → List Int) (goods kept reach : Nat → Bool) (k : Nat) : Prop := kept k = true ∧ reach k = false ∧ hit goods kept reach (mv k) = true
theorem stp_cases (kept : Nat → Bool) (k : Nat) (p : (Nat → Bool) × Bool) : (Fire mv goods kept p.1 k ∧ stp mv goods kept k p = (fun t => if t = k then true else p.1 t, true)) ∨ (¬ Fire mv goods kept p.1 k ∧ stp mv goods kept k p = p) := by
  unfold stp Fire
  by_cases c : (kept k && !p.1 k && hit goods kept p.1 (mv k)) = true
  · left
    rw [if_pos c]
    simp only [Bool.and_eq_true, Bool.not_eq_true'] at c
    exact ⟨⟨c.1.1, c.1.2, c.2⟩, rfl⟩
  · right
    rw [if_neg c]
    refine ⟨fun ⟨a, b, d⟩ => c ?_, rfl⟩
    rw [a, b, d]
    rfl
theorem pas_mono (kept : Nat → Bool) (p : (Nat → Bool) × Bool) : ∀ j t, p.1 t = true → (pas mv goods n kept j p).1 t = true
  | 0, _, h => h
  | j + 1, t, h => by
    have ih := pas_mono kept p j t h
    unfold pas
    rcases stp_cases (mv := mv) (goods := goods) kept (n - 1 - j) (pas mv goods n kept j p) with ⟨_, e⟩ | ⟨_, e⟩
    · rw [e]
      show (if t = n - 1 - j then true else _) = true
      split
      · rfl
      · exact ih
    · rw [e]
      exact ih
theorem pas_quiet (kept : Nat → Bool) (p : (Nat → Bool) × Bool) : ∀ j, (pas mv goods n kept j p).2 = false → pas mv goods n kept j p = p ∧ ∀ i, i < j → ¬ Fire mv goods kept p.1 (n - 1 - i)
  | 0, _ => ⟨rfl, fun i h => absurd h (Nat.not_lt_zero i)⟩
  | j + 1, h => by
    unfold pas at h ⊢
    rcases stp_cases (mv := mv) (goods := goods) kept (n - 1 - j) (pas mv goods n kept j p) with ⟨_, e⟩ | ⟨nf, e⟩
    · rw [e] at h
      cases h
    · rw [e] at h ⊢
      obtain ⟨h1, h2⟩ := pas_quiet kept p j h
      refine ⟨h1, fun i hi => ?_⟩
      rcases Nat.lt_or_ge i j with y | y
      · exact h2 i y
      · have : i = j := by omega
        rw [this, ← h1]
        exact nf
theorem pas_grow (kept r : Nat → Bool) : ∀ j, j ≤ n → (pas mv goods n kept j (r, false)).2 = true → ∃ t, t < n ∧ (pas mv goods n kept j (r, false)).1 t = true ∧ r t = false
  | 0, _, h => by cases h
  | j + 1, hj, h => by
    unfold pas at h ⊢
    rcases stp_cases (mv := mv) (goods := goods) kept (n - 1 - j) (pas mv goods n kept j (r, false)) with ⟨f, e⟩ | ⟨nf, e⟩
    · rw [e]
      refine ⟨n - 1 - j, by omega, if_pos rfl, ?_⟩
      cases hr : r (n - 1 - j) with
      | false => rfl
      | true =>
        have := pas_mono (mv := mv) (goods := goods) (n := n) kept (r, false) j (n - 1 - j) hr
        rw [f.2.1] at this
        cases this
    · rw [e] at h ⊢
      exact pas_grow kept r j (by omega) h
/-- from k a good kept node can be reached through kept nodes, in m + 1 steps -/
def Rch (mv : Nat → List Int) (goods kept : Nat → Bool) : Nat → Nat → Prop
  | 0, k => ∃ t ∈ mv k, kept t.toNat = true ∧ goods t.toNat = true
  | m + 1, k => ∃ t ∈ mv k, kept t.toNat = true ∧ Rch mv goods kept m t.toNat
def Snd (mv : Nat → List Int) (goods kept : Nat → Bool) (r : Nat → Bool) : Prop := ∀ t, r t = true → kept t = true ∧ ∃ m, Rch mv goods kept m t
theorem stp_snd {kept : Nat → Bool} {k : Nat} {p : (Nat → Bool) × Bool} (h : Snd mv goods kept p.1) : Snd mv goods kept (stp mv goods kept k p).1 := by
  rcases stp_cases (mv := mv) (goods := goods) kept k p with ⟨f, e⟩ | ⟨_, e⟩
  · rw [e]
    intro t ht
    have ht : (if t = k then true else p.1 t) = true := ht
    by_cases y : t = k
    · subst y
      refine ⟨f.1, ?_⟩
      obtain ⟨t', h1, h2, h3⟩ := hit_iff.mp f.2.2
      rcases h3 with g | g
      · exact ⟨0, t', h1, h2, g⟩
      · obtain ⟨_, m, hm⟩ := h _ g
        exact ⟨m + 1, t', h1, h2, hm⟩
    · rw [if_neg y] at ht
      exact h t ht
  · rw [e]
    exact h
theorem pas_snd {kept : Nat → Bool} {p : (Nat → Bool) × Bool} (h : Snd mv goods kept p.1) : ∀ j, Snd mv goods kept (pas mv goods n kept j p).1
  | 0 => h
  | j + 1 => stp_snd (pas_snd h j)
def Clo (mv : Nat → List Int) (goods kept : Nat → Bool) (n : Nat) (r : Nat → Bool) : Prop := ∀ k, k < n → kept k = true → hit goods kept r (mv k) = true → r k = true
theorem inn_snd {kept : Nat → Bool} : ∀ f r, Snd mv goods kept r → Snd mv goods kept (inn mv goods n kept f r)
  | 0, r, h => h
  | f + 1, r, h => by
    unfold inn
    have h1 := pas_snd (n := n) (p := (r, false)) h n
    split
    · exact inn_snd f _ h1
    · exact h1
theorem inn_clo {kept : Nat → Bool} : ∀ f r, n < cnt r n + f → Clo mv goods kept n (inn mv goods n kept f r)
  | 0, r, h => by have := cnt_le r n; omega
  | f + 1, r, h => by
    unfold inn
    split
    · rename_i c
      refine inn_clo f _ ?_
      have := cnt_lt n (f := r) (g := (pas mv goods n kept n (r, false)).1) (fun t _ ht => pas_mono kept (r, false) n t ht) (pas_grow kept r n (Nat.le_refl n) c)
      omega
    · rename_i c
      obtain ⟨h1, h2⟩ := pas_quiet (mv := mv) (goods := goods) (n := n) kept (r, false) n (Bool.eq_false_iff.mpr c)
      rw [h1]
      intro k hk hkk hh
      cases hr : r k with
      | true => exact hr
      | false =>
        have := h2 (n - 1 - k) (by omega)
        rw [show n - 1 - (n - 1 - k) = k by omega] at this
        exact absurd ⟨hkk, hr, hh⟩ this
theorem out_fix : ∀ f k, cnt k n < f → ∀ t, t < n → inn mv goods n (out mv goods n f k) (n + 1) (fun _ => false) t = out mv goods n f k t
  | 0, k, h => absurd h (Nat.not_lt_zero _)
  | f + 1, k, h => by
    unfold out
    split
    · rename_i c
      intro t ht
      exact of_decide_eq_true c t ht
    · rename_i c
      refine out_fix f _ ?_
      have hs := inn_snd (mv := mv) (goods := goods) (n := n) (kept := k) (n + 1) (fun _ => false) (fun t ht => by cases ht)
      have := cnt_lt n (f := inn mv goods n k (n + 1) fun _ => false) (g := k) (fun t _ ht => (hs t ht).1) ?_
      · omega
      · refine Classical.byContradiction fun hno => c (decide_eq_true fun t ht => ?_)
        cases ha : inn mv goods n k (n + 1) (fun _ => false) t with
        | true => exact (hs t ha).1.symm
        | false =>
          cases hb : k t with
          | false => rfl
          | true => exact absurd ⟨t, ht, hb, ha⟩ hno
/-- an infinite path that visits good nodes again and again -/
def Path (mv : Nat → List Int) (goods : Nat → Bool) (s : Nat) : Prop := ∃ π : Nat → Nat, π 0 = s ∧ (∀ i, ((π (i + 1) : Nat) : Int) ∈ mv (π i)) ∧ ∀ i, ∃ j, i < j ∧ goods (π j) = true
/-- all targets are nodes -/
def Bnd (mv : Nat → List Int) (n : Nat) : Prop := ∀ k, k < n → ∀ t ∈ mv k, 0 ≤ t ∧ t < (n : Int)
theorem path_of {K : Nat → Bool} (hb : Bnd mv n) (hK : ∀ k, k < n → K k = true → ∃ m, Rch mv goods K m k) {s : Nat} (hs : s < n) (ks : K s = true) : Path mv goods s := by
  have next : ∀ p : {p : Nat × Nat // p.1 < n ∧ K p.1 = true ∧ Rch mv goods K p.2 p.1}, ∃ q : {p : Nat × Nat // p.1 < n ∧ K p.1 = true ∧ Rch mv goods K p.2 p.1}, ((q.1.1 : Nat) : Int) ∈ mv p.1.1 ∧ (p.1.2 = 0 → goods q.1.1 = true) ∧ ∀ m, p.1.2 = m + 1 → q.1.2 = m := by
    rintro ⟨⟨k, m⟩, hk, hkk, hr⟩
    cases m with
    | zero =>
      obtain ⟨t, ht, kt, gt⟩ := hr
      obtain ⟨t0, t1⟩ := hb k hk t ht
      obtain ⟨m', hm'⟩ := hK t.toNat (by omega) kt
      refine ⟨⟨⟨t.toNat, m'⟩, by show t.toNat < n; omega, kt, hm'⟩, ?_, fun _ => gt, fun m h => by cases h⟩
      show ((t.toNat : Nat) : Int) ∈ mv k
      rw [show ((t.toNat : Nat) : Int) = t by omega]
      exact ht
    | succ m =>
      obtain ⟨t, ht, kt, rt⟩ := hr
      obtain ⟨t0, t1⟩ := hb k hk t ht
      refine ⟨⟨⟨t.toNat, m⟩, by show t.toNat < n; omega, kt, rt⟩, ?_, (fun h => by cases h), fun m' h => (Nat.succ.inj h : m = m')⟩
      show ((t.toNat : Nat) : Int) ∈ mv k
      rw [show ((t.toNat : Nat) : Int) = t by omega]
      exact ht
  obtain ⟨m, hm⟩ := hK s hs ks
  let σ : Nat → {p : Nat × Nat // p.1 < n ∧ K p.1 = true ∧ Rch mv goods K p.2 p.1} := fun i => Nat.rec ⟨⟨s, m⟩, hs, ks, hm⟩ (fun _ p => Classical.choose (next p)) i
  have hσ : ∀ i, ((((σ (i + 1)).1.1 : Nat) : Int) ∈ mv (σ i).1.1) ∧ ((σ i).1.2 = 0 → goods (σ (i + 1)).1.1 = true) ∧ ∀ m, (σ i).1.2 = m + 1 → (σ (i + 1)).1.2 = m := fun i => Classical.choose_spec (next (σ i))
  refine ⟨fun i => (σ i).1.1, rfl, fun i => (hσ i).1, fun i => ?_⟩
  have key : ∀ m i, (σ i).1.2 = m → ∃ j, i < j ∧ goods (σ j).1.1 = true := by
    intro m
    induction m with
    | zero => exact fun i h => ⟨i + 1, by omega, (hσ i).2.1 h⟩
    | succ m ih =>
      intro i h
      obtain ⟨j, hj, hg⟩ := ih (i + 1) ((hσ i).2.2 m h)
      exact ⟨j, by omega, hg⟩
  exact key _ i rfl
theorem path_lt (hb : Bnd mv n) {π : Nat → Nat} (h0 : π 0 < n) (hπ : ∀ i, ((π (i + 1) : Nat) : Int) ∈ mv (π i)) : ∀ i, π i < n
  | 0 => h0
  | i + 1 => by
    have := hb (π i) (path_lt hb h0 hπ i) _ (hπ i)
    omega
theorem out_path (hb : Bnd mv n) {π : Nat → Nat} (h0 : π 0 < n) (hπ : ∀ i, ((π (i + 1) : Nat) : Int) ∈ mv (π i)) (hg : ∀ i, ∃ j, i < j ∧ goods (π j) = true) : ∀ f k, (∀ i, k (π i) = true) → ∀ i, out mv goods n f k (π i) = true
  | 0, k, h => h
  | f + 1, k, h => by
    unfold out
    split
    · exact h
    · refine out_path hb h0 hπ hg f _ fun i => ?_
      have hc := inn_clo (mv := mv) (goods := goods) (n := n) (kept := k) (n + 1) (fun _ => false) (by omega)
      have hlt := path_lt hb h0 hπ
      have key : ∀ d i, goods (π (i + d + 1)) = true → inn mv goods n k (n + 1) (fun _ => false) (π i) = true := by
        intro d
        induction d with
        | zero =>
          intro i hgi
          refine hc (π i) (hlt i) (h i) (hit_iff.mpr ⟨_, hπ i, ?_, .inl ?_⟩)
          · rw [Int.toNat_natCast]; exact h _
          · rw [Int.toNat_natCast]; exact hgi
        | succ d ih =>
          intro i hgi
          refine hc (π i) (hlt i) (h i) (hit_iff.mpr ⟨_, hπ i, ?_, .inr ?_⟩)
          · rw [Int.toNat_natCast]; exact h _
          · rw [Int.toNat_natCast]
            exact ih (i + 1) (by rw [show i + 1 + d + 1 = i + (d + 1) + 1 by omega]; exact hgi)
      obtain ⟨j, hj, hgj⟩ := hg i
      exact key (j - i - 1) i (by rw [show i + (j - i - 1) + 1 = j by omega]; exact hgj)
/-- `lives` is true exactly if an infinite path from one of the starts visits good nodes again and again -/
theorem lives_iff (hb : Bnd mv n) {ss : List Int} (hs : ∀ s ∈ ss, 0 ≤ s ∧ s < (n : Int)) : lives mv goods n ss = true ↔ ∃ s ∈ ss, Path mv goods s.toNat := by
  unfold lives
  rw [List.any_eq_true]
  constructor
  · rintro ⟨s, h1, h2⟩
    have hr := hs s h1
    have hf := out_fix (mv := mv) (goods := goods) (n := n) (n + 1) (fun _ => true) (by rw [cnt_all]; omega)
    refine ⟨s, h1, path_of (K := out mv goods n (n + 1) fun _ => true) hb (fun k hk hkk => ?_) (by omega) h2⟩
    rw [← hf k hk] at hkk
    exact (inn_snd (mv := mv) (goods := goods) (n := n) (n + 1) (fun _ => false) (fun t ht => by cases ht) k hkk).2
  · rintro ⟨s, h1, π, p0, p1, p2⟩
    have hr := hs s h1
    refine ⟨s, h1, ?_⟩
    have := out_path hb (π := π) (by rw [p0]; omega) p1 p2 (n + 1) (fun _ => true) (fun _ => rfl) 0
    rw [p0] at this
    exact this
end
end Lv
namespace Lv
open Gr
theorem nd_le {l : List Nat} {n : Nat} (nd : l.Nodup) (lt : ∀ x ∈ l, x < n) : l.length ≤ n := by
  have h := wsum_le (fun _ => 1) n nd lt
  have h1 : ∀ l : List Nat, wsum (fun _ => 1) l = l.length := by
    intro l
    induction l with
    | nil => rfl
    | cons x l ih => rw [wsum_cons, ih, List.length_cons]; omega
  have h2 : ∀ n, below (fun _ => 1) n = n := by
    intro n
    induction n with
    | zero => rfl
    | succ n ih => show below _ n + 1 = _; rw [ih]
  rw [h1, h2] at h
  exact h
theorem pigeon {n : Nat} {f : Nat → Nat} (h : ∀ k, k ≤ n → f k < n) : ∃ i j, i < j ∧ j ≤ n ∧ f i = f j := by
  refine Classical.byContradiction fun hno => ?_
  have nd : ((List.range (n + 1)).map f).Nodup := by
    rw [List.nodup_iff_pairwise_ne, List.pairwise_map]
    refine List.Pairwise.imp_of_mem (R := (· < ·)) (fun {a b} ha hb hab e => hno ⟨a, b, hab, ?_, e⟩) List.pairwise_lt_range
    have := List.mem_range.mp hb
    omega
  have := nd_le nd fun x hx => by
    obtain ⟨k, hk, rfl⟩ := List.mem_map.mp hx
    exact h k (by have := List.mem_range.mp hk; omega)
  rw [List.length_map, List.length_range] at this
  omega
theorem rc_path {g : G} {π : Nat → Nat} (hπ : ∀ i, E g (π i) (π (i + 1))) (i : Nat) : ∀ d, Rc g (π i) (π (i + d))
  | 0 => .refl _
  | d + 1 => (rc_path hπ i d).snoc (hπ (i + d))
theorem path_cyc {g : G} {goods : Nat → Bool} {n : Nat} {π : Nat → Nat} (hlt : ∀ i, π i < n) (hπ : ∀ i, E g (π i) (π (i + 1))) (hg : ∀ i, ∃ j, i < j ∧ goods (π j) = true) : ∃ a, goods a = true ∧ Rc g (π 0) a ∧ Cyc g a := by
  let t : Nat → Nat := fun k => Nat.rec (Classical.choose (hg 0)) (fun _ p => Classical.choose (hg p)) k
  have ht : ∀ k, t k < t (k + 1) ∧ goods (π (t (k + 1))) = true := fun k => Classical.choose_spec (hg (t k))
  have hmono : ∀ i d, t i < t (i + d + 1) := by
    intro i d
    induction d with
    | zero => exact (ht i).1
    | succ d ih => exact Nat.lt_trans ih (ht (i + d + 1)).1
  obtain ⟨i, j, hij, _, e⟩ := pigeon (n := n) (f := fun k => π (t (k + 1))) fun k _ => hlt _
  have h1 : t (i + 1) < t (j + 1) := by
    have := hmono (i + 1) (j - i - 1)
    rwa [show i + 1 + (j - i - 1) + 1 = j + 1 by omega] at this
  refine ⟨π (t (i + 1)), (ht i).2, ?_, π (t (i + 1) + 1), hπ _, ?_⟩
  · have := rc_path hπ 0 (t (i + 1))
    rwa [Nat.zero_add] at this
  · have h2 := rc_path hπ (t (i + 1) + 1) (t (j + 1) - (t (i + 1) + 1))
    rw [show t (i + 1) + 1 + (t (j + 1) - (t (i + 1) + 1)) = t (j + 1) by omega] at h2
    have e : π (t (i + 1)) = π (t (j + 1)) := e
    rw [e]
    rw [← e] at h2 ⊢
    exact h2
theorem cyc_path {g : G} {mv : Nat → List Int} {goods : Nat → Bool} {n : Nat} (hE : ∀ u v, u < n → (E g u v ↔ (v : Int) ∈ mv u)) (hb : Bnd mv n) {s a : Nat} (hs : s < n) (ha : goods a = true) (r : Rc g s a) (hc : Cyc g a) : Path mv goods s := by
  have ok : ∀ u v, u < n → E g u v → v < n := fun u v hu e => by
    have := hb u hu _ ((hE u v hu).mp e)
    omega
  have step : ∀ v b, Rc g v b → b = a → ∀ u, u < n → E g u v → ∃ m, Rch mv goods (fun u => @decide (Rc g u a) (Classical.propDecidable _)) m u := by
    intro v b r
    induction r with
    | refl v =>
      rintro rfl u hu e
      refine ⟨0, (v : Int), (hE u v hu).mp e, ?_, ?_⟩
      · rw [Int.toNat_natCast]; exact @decide_eq_true _ (Classical.propDecidable _) (Rc.refl v)
      · rw [Int.toNat_natCast]; exact ha
    | @step v w b e2 r5 ih =>
      rintro rfl u hu e
      obtain ⟨m, hm⟩ := ih rfl v (ok u v hu e) e2
      refine ⟨m + 1, (v : Int), (hE u v hu).mp e, ?_, ?_⟩
      · rw [Int.toNat_natCast]; exact @decide_eq_true _ (Classical.propDecidable _) (Rc.step e2 r5)
      · rw [Int.toNat_natCast]; exact hm
  refine path_of (K := fun u => @decide (Rc g u a) (Classical.propDecidable _)) hb (fun k hk hkk => ?_) hs (@decide_eq_true _ (Classical.propDecidable _) r)
  have rk := @of_decide_eq_true _ (Classical.propDecidable _) hkk
  rcases rk.cases_step with rfl | ⟨w, e, r2⟩
  · obtain ⟨v, e, r2⟩ := hc
    exact step v _ r2 rfl _ hk e
  · exact step w _ r2 rfl _ hk e
theorem lives_cyc {g : G} {mv : Nat → List Int} {goods : Nat → Bool} {n : Nat} (hE : ∀ u v, u < n → (E g u v ↔ (v : Int) ∈ mv u)) (hb : Bnd mv n) {ss : List Int} (hs : ∀ s ∈ ss, 0 ≤ s ∧ s < (n : Int)) : lives mv goods n ss = true ↔ ∃ s ∈ ss, ∃ a, goods a = true ∧ Rc g s.toNat a ∧ Cyc g a := by
  rw [lives_iff hb hs]
  constructor
  · rintro ⟨s, h1, π, p0, p1, p2⟩
    have hr := hs s h1
    have hlt := path_lt hb (π := π) (by rw [p0]; omega) p1
    obtain ⟨a, h2, h3, h4⟩ := path_cyc (g := g) hlt (fun i => (hE _ _ (hlt i)).mpr (p1 i)) p2
    rw [p0] at h3
    exact ⟨s, h1, a, h2, h3, h4⟩
  · rintro ⟨s, h1, a, h2, h3, h4⟩
    have hr := hs s h1
    exact ⟨s, h1, cyc_path hE hb (by omega) h2 h3 h4⟩
end Lv
/-! own rule: enumerate of a tuple -/
namespace Bx
open PySem PySem.Spec PyProof.Rows L2
open AutoSeq1 (wpAny_loadPart')
theorem meets_enumerate_newT (l : Addr) (items : Array Value) (n : Nat) (dct : Option Addr) (sl : Array (Option Value)) :
    Meets (Builtin.«enumerate.__new__» ⟨[.type "enumerate", .ref l], []⟩) (fun _ R s => s.heap.get? l = some { cls := .type "tuple", dict := dct, data := .seq items n, slots := sl } ∧
      R (.ok (.ret (.ref (s.heap.push { cls := .type "tuple_iterator", data := .fields #[.ref l, .int 0 0] }).objs.size)))
        { s with heap := (s.heap.push { cls := .type "tuple_iterator", data := .fields #[.ref l, .int 0 0] }).push { cls := .type "enumerate", data := .fields #[.none, .bool false, .ref s.heap.objs.size, rawInt 0, .none, .none] } }) :=
  .of_wp fun prog w A R s h => by
    obtain ⟨hp, g, d, tk, os⟩ := s; obtain ⟨hl, h⟩ := h
    have hsub := sub_enumerate
    have hL : Heap.IsTuple (Shared.heap ⟨hp, g, d, tk, os⟩) l items := ⟨_, hl, rfl, n, rfl⟩
    wp_walk using wpAny_loadPart' hl
    refine wpAny_stack_any fun st => wpAny_pure ?_
    split
    · rename_i c _ _ _ _ _
      cases (c == Value.type "enumerate")
      · wp_walk using wpAny_loadPart' hl, wpAny_pyIter_tuple hL
        exact ⟨_, rfl, h⟩
      · wp_walk using wpAny_loadPart' hl, wpAny_pyIter_tuple hL
        exact ⟨_, rfl, h⟩
    · wp_walk using wpAny_loadPart' hl, wpAny_pyIter_tuple hL
      exact ⟨_, rfl, h⟩
theorem call_enumerate_tuple {prog : Program} {w : World} {A : Around} {E : Value → Shared → Prop} {s : Shared} {l : Addr} {items : Array Value} {Q : Value → Shared → Prop} (hL : s.heap.IsTuple l items)
    (h : ∀ h', IsEnum h' (s.heap.objs.size + 1) s.heap.objs.size 0 .none → h'.IsTupleIter s.heap.objs.size l 0 → h'.objs.size = s.heap.objs.size + 2 →
      (∀ b o, s.heap.get? b = some o → h'.get? b = some o) → Q (.ref (s.heap.objs.size + 1)) { s with heap := h' }) :
    wpAny (model prog w) A (call (.type "enumerate") [.ref l]) Q E s := by
  obtain ⟨⟨c, dct, dt, sl⟩, hl, hc, n, hd⟩ := hL
  replace hc : c = .type "tuple" := hc
  replace hd : dt = .seq items n := hd
  subst hc hd
  refine callType_new F.called_enumerate (by decide) (F.typeCall_enumerate_1 _) (F.newCall_enumerate_1 _) (fun obj => F.args_object_init_2 obj _) F.entry_enumerate_new
    (meets_enumerate_newT l items n dct sl) ⟨hl, ?_⟩
  have hz : (s.heap.push { cls := .type "tuple_iterator", data := .fields #[.ref l, .int 0 0] }).objs.size = s.heap.objs.size + 1 := Heap.size_push ..
  show _ ∧ _
  rw [hz]
  have he : IsEnum ((s.heap.push { cls := .type "tuple_iterator", data := .fields #[.ref l, .int 0 0] }).push
      { cls := .type "enumerate", data := .fields #[.none, .bool false, .ref s.heap.objs.size, rawInt 0, .none, .none] }) (s.heap.objs.size + 1) s.heap.objs.size 0 .none := by
    have := Heap.get?_push_size (s.heap.push { cls := .type "tuple_iterator", data := .fields #[.ref l, .int 0 0] })
      (o := { cls := .type "enumerate", data := .fields #[.none, .bool false, .ref s.heap.objs.size, rawInt 0, .none, .none] }) rfl
    rw [hz] at this; exact this
  refine ⟨⟨_, he, rfl⟩, h _ he ⟨_, Heap.get?_push_of_some _ (Heap.get?_push_size _ rfl), rfl, rfl⟩ (by rw [Heap.size_push, hz]) fun b o x => Heap.get?_push_of_some _ (Heap.get?_push_of_some _ x)⟩
/-- the tuple at a, each item in a new pair -/
def IteT (K : PySem.W.Frag) (a : Addr) : It :=
  ⟨fun i H => ∃ (xs : List V) (x : V), SqT K H a xs ∧ xs[i]? = some x, fun i H v H' => ∃ T x, v = .ref T ∧ H T = none ∧ H' = upd H T (.tup [.int (i : Nat), x]) ∧ ∀ xs, SqT K H a xs → xs[i]? = some x, fun i H => ∃ xs : List V, SqT K H a xs ∧ xs.length ≤ i⟩
theorem turn_enumT {P : Program} {w : World} {K : PySem.W.Frag} {elts : List Expr} {kk : Nat} {tpos : Pos} (a e it : Addr) :
    Turn P w K (.Tuple elts kk tpos) (IteT K a) [e, it] e (fun i h => (∃ old, IsEnum h e it ((i : Nat) : Int) old) ∧ h.IsTupleIter it a i ∧ e ≠ it) where
  mem := by simp
  obj := fun i h st b hb => by
    obtain ⟨⟨old, he⟩, ⟨o, ho, hc, hd⟩, _⟩ := st
    have e' : b = e ∨ b = it := by simpa using hb
    rcases e' with z | z
    · rw [z]; exact ⟨_, he, fun v q => nomatch q⟩
    · rw [z]; exact ⟨o, ho, fun v q => by rw [hd] at q; cases q⟩
  keep := fun i h h' st k => let ⟨⟨old, he⟩, hi, hne⟩ := st; ⟨⟨old, k e (by simp) _ he⟩, hi.at fun o q => k it (by simp) o q, hne⟩
  item := by
    intro X hP hw hK hc i pins s σ H E I hf st hg
    subst hP hw hK
    obtain ⟨⟨old, he⟩, hit, hne⟩ := st
    obtain ⟨xs, x, hq, hx⟩ := hg
    obtain ⟨its, rv, p, hz⟩ := I.tuple hq
    obtain ⟨u, hu, ru⟩ := rv.get hx
    have hel : e < s.heap.objs.size := Heap.lt_size he
    have hil : it < s.heap.objs.size := by obtain ⟨_, q, _⟩ := hit; exact Heap.lt_size q
    obtain ⟨oa, hoa, hca, na, hda⟩ := id p
    have hai : a ≠ it := fun z => by
      obtain ⟨o, ho, hc', hd'⟩ := hit
      rw [← z, hoa] at ho
      cases ho
      rw [hda] at hd'
      cases hd'
    have hae : e ≠ a := fun z => by
      have he' := he
      unfold IsEnum at he'
      rw [z, hoa] at he'
      cases he'
      cases hda
    have hii : i < its.toArray.size := by
      rcases Nat.lt_or_ge i its.toArray.size with y | y
      · exact y
      · rw [List.getElem?_eq_none (by simpa using y)] at hu
        cases hu
    have hh1 : X.A.in1.handled = none := by simp [I.ok.hd hc]
    refine wpAny_pyNext_enum_itemD (Draws.tuple (prog := X.prog) (w := X.w) hh1 it a hai its.toArray) he ⟨hit, p⟩ hii hne (by simp only [List.mem_cons, List.not_mem_nil, or_false, not_or]; exact ⟨hne, hae⟩) fun v h' tk hv ho hit' hT hsz hk => ?_
    have ev : v = u := by
      have : its[i]? = some v := by simpa using hv
      rw [hu] at this
      exact (Option.some.inj this).symm
    subst ev
    refine ⟨_, rfl, wpAny_letOwnedTupleGo_enum (s := { s with heap := h', toks := tk + 1 }) ho fun h'' he' sb => ?_⟩
    have hT2 : h''.get? s.heap.objs.size = some { cls := .type "tuple", data := .seq #[.int i tk, v] } := (sb.2 _ (Nat.ne_of_gt hel)).trans hT
    have new : ObjOk X.prog X.w (upd H s.heap.objs.size (.tup [.int (i : Nat), x])) h'' s.heap.objs.size (.tup [.int (i : Nat), x]) :=
      ⟨by show 2 ≤ sizeLine; decide, [.int i tk, v], .cons ⟨_, rfl⟩ (.cons ru .nil), ⟨_, hT2, rfl, _, rfl⟩⟩
    have I1 : Inv X pins σ (upd H s.heap.objs.size (.tup [.int (i : Nat), x])) { s with heap := h'', toks := tk + 1 } :=
      I.turnedNew (ch := [e, it]) (fun b ob hb q => (sb.2 b (fun z => hb (by simp [z]))).trans (hk b ob (fun z => hb (by simp [z])) (fun z => hb (by simp [z])) q)) hf (Nat.le_refl _) new
    refine ⟨.ref s.heap.objs.size, _, I1, rfl, ⟨_, x, rfl, I.hok.fresh (Nat.le_refl _), rfl, fun ys hy => by rw [I.tuple_inj hy hq]; exact hx⟩, ⟨⟨v, ?_⟩, hit'.1.at fun o q => (sb.2 it (Ne.symm hne)).trans q, hne⟩, fun b hb => ?_⟩
    · have e1 : ((i + 1 : Nat) : Int) = (i : Int) + 1 := by omega
      rw [e1]; exact he'
    · have hb' : b < s.heap.objs.size := by
        have e' : b = e ∨ b = it := by simpa using hb
        rcases e' with z | z
        · rw [z]; exact hel
        · rw [z]; exact hil
      rw [upd_ne (Nat.ne_of_lt hb')]
      exact (hf b hb).1
  done := by
    intro X hP hw hK hc i pins s σ H E I hf st hg
    subst hP hw hK
    obtain ⟨⟨old, he⟩, hit, hne⟩ := st
    obtain ⟨xs, hq, hx⟩ := hg
    obtain ⟨its, rv, p, hz⟩ := I.tuple hq
    obtain ⟨f0, f1, f2, f3, f4, f5⟩ := hf it (by simp)
    have hl := rv.length
    have hT : s.TypeIs (.ref e) "enumerate" := ⟨_, he, rfl⟩
    unfold pyNext
    refine wpAny_bind (wpAny_attempt (wpAny_callSpecial?_slot (name := Str.ofString "__next__") hT F.slot_enumerate_next
      (wpAny_call_entry F.slot_enumerate_next hT F.entry_enumerate_next ?_ (F.args_enumerate_next_1 _))))
    show wpAny _ _ (field (.ref e) 2 >>= _) _ _ _
    refine wpAny_bind (wpAny_field he rfl (x := .ref it) rfl ?_)
    refine wpAny_bind (wpAny_nextOf_tuple_end (I.ok.hd hc) hit p (by simp; omega) fun h' x he' hx' => ?_)
    obtain ⟨o, ho, hc⟩ := hx'
    refine wpAny_bind (wpAny_isInstance (T := "StopIteration") (b := true) ⟨o, ho, hc⟩ isSubtype_stop ?_)
    exact wpAny_pure ⟨rfl, I.turned (t' := s.toks) (fun b o hb q => he' b o hb q) f0 f1 f3 f4 f5⟩
  self := fun A i s Q E st h => let ⟨⟨_, he⟩, _⟩ := st; wpAny_pyIter_enum he h
def iEnumT (K : PySem.W.Frag) (ta : TA) : TI := fun σ H R => ta σ H fun vs H1 => ∃ a xs, vs = [.ref a] ∧ SqT K H1 a xs ∧ R (IteT K a) H1
theorem pi_enumT {X : Cx} {e : Expr} {ta : TA} {p pos tpos : Pos} {elts : List Expr} {kk : Nat} (hg : Gl X "enumerate") (hm : X.mg "enumerate" = none) (ha : PA X [e] ta) (hs : starEach [e] X.env = [(false, eval e X.env)] := by rfl) :
    PI X (.Tuple elts kk tpos) (.Call (.Name "enumerate" p) [e] [] pos) (iEnumT X.K ta) := by
  refine ⟨fun pins s σ H R I h => ?_⟩
  refine Call_ (ld_blt I hg hm boot_enumerate (PyProof.Rows.callWith_type1 (thn (ha.run pos pins s σ H _ I h) fun us s1 ⟨vs, H1, I1, r1, q1⟩ => ?_) hs rfl))
  obtain ⟨a, xs, ex, hq, q⟩ := q1
  subst ex
  cases r1 with
  | cons r rr =>
    cases rr
    cases r
    obtain ⟨its, rv, p', hz⟩ := I1.tuple hq
    refine call_enumerate_tuple p' fun h' he hit hsz hk => wpAny_pyIter_enum he ?_
    have I2 : Inv X pins σ H1 { s1 with heap := h' } := I1.kept (t' := s1.toks) hk
    refine ⟨s1.heap.objs.size + 1, [s1.heap.objs.size + 1, s1.heap.objs.size], _, _, H1, rfl, I2, turn_enumT a (s1.heap.objs.size + 1) s1.heap.objs.size, ⟨⟨.none, he⟩, hit, Nat.succ_ne_self _⟩, fun b hb => ?_, q⟩
    have e' : b = s1.heap.objs.size + 1 ∨ b = s1.heap.objs.size := by simpa using hb
    have hle : s1.heap.objs.size ≤ b := by
      rcases e' with z | z
      · rw [z]; exact Nat.le_add_right _ _
      · rw [z]; exact Nat.le_refl _
    exact I1.fpOk hle (I1.hok.fresh hle)
theorem walk_enumT {K : PySem.W.Frag} {a : Addr} {xs : List V} : Walk (IteT K a) xs.length (fun H => SqT K H a xs) (YPair (fun i => some (.int (i : Nat))) (fun i => xs[i]?)) := by
  refine ⟨fun i _ hi q => ⟨xs, xs[i], q, by simp [hi]⟩, fun _ q => ⟨xs, q, Nat.le_refl _⟩, fun i H v H' _ q y => ?_⟩
  obtain ⟨T, x, h1, h2, h3, h4⟩ := y
  exact ⟨T, .int (i : Nat), x, h1, h2, h3, rfl, h4 xs q⟩
end Bx
namespace Bx
open PySem PySem.Spec PyProof.Rows L2
theorem pi_enumTK {X : Cx} {K : PySem.W.Frag} (h : X.K = K) {e : Expr} {ta : TA} {p pos tpos : Pos} {elts : List Expr} {kk : Nat} (hg : Gl X "enumerate") (hm : X.mg "enumerate" = none) (ha : PA X [e] ta) (hs : starEach [e] X.env = [(false, eval e X.env)] := by rfl) :
    PI X (.Tuple elts kk tpos) (.Call (.Name "enumerate" p) [e] [] pos) (iEnumT K ta) := by
  subst h
  exact pi_enumT hg hm ha hs
/-- two clauses, the outer walk over anything -/
theorem lc2_it {J : It} {n : Nat} {G : Hp → Prop} {Y : Nat → Hp → V → Hp → Prop} (w : Walk J n G Y) {g g1 : TG} {tt tt1 : TT} {wi1 : TI} {te : TE} {vs vs1 : List Nat} {σ : L2.St} {H1 : Hp} {D : Addr} {Qd : Hp → Prop} (Pv : Nat → Hp → Prop) (h0 : Pv 0 (upd H1 D (.lst []))) (hG : ∀ i H, i ≤ n → Pv i H → G H)
    (hs : ∀ i x H H0, i < n → Pv i H → Y i H x H0 → g x (wipe σ vs) H0 fun σ2 H2 => wipe σ2 vs = wipe σ vs ∧ tt σ2 H2 fun b H3 => if b = true then wi1 σ2 H3 fun J1 H4 => ∃ W1 : Nat → Nat → Hp → Prop, (∃ m, W1 0 m H4) ∧ ∀ j k H, W1 j k H →
      (J1.stop j H ∧ Pv (i + 1) H) ∨ (J1.go j H ∧ ∃ Nx1 : Hp → Prop, (∀ H', Nx1 H' → ∃ k', k' < k ∧ W1 (j + 1) k' H') ∧ ∀ x H', J1.yld j H x H' → g1 x (wipe σ2 vs1) H' fun σ3 H5 => wipe σ3 vs1 = wipe σ2 vs1 ∧ tt1 σ3 H5 fun b H6 =>
        if b = true then te σ3 H6 fun y H7 => ∃ acc, H7 D = some (.lst acc) ∧ acc.length < sizeLine ∧ Nx1 (upd H7 D (.lst (acc ++ [y]))) else Nx1 H6) else Pv (i + 1) H3) (hd : ∀ H, Pv n H → Qd H) :
    ∃ W : Nat → Nat → Hp → Prop, (∃ m, W 0 m (upd H1 D (.lst []))) ∧ ∀ i m H, W i m H →
      (J.stop i H ∧ Qd H) ∨ (J.go i H ∧ ∃ Nx : Hp → Prop, (∀ H', Nx H' → ∃ m', m' < m ∧ W (i + 1) m' H') ∧ ∀ x H', J.yld i H x H' → g x (wipe σ vs) H' fun σ2 H2 => wipe σ2 vs = wipe σ vs ∧ tt σ2 H2 fun b H3 =>
        if b = true then wi1 σ2 H3 fun J1 H4 => ∃ W1 : Nat → Nat → Hp → Prop, (∃ m, W1 0 m H4) ∧ ∀ j k H, W1 j k H →
          (J1.stop j H ∧ Nx H) ∨ (J1.go j H ∧ ∃ Nx1 : Hp → Prop, (∀ H', Nx1 H' → ∃ k', k' < k ∧ W1 (j + 1) k' H') ∧ ∀ x H', J1.yld j H x H' → g1 x (wipe σ2 vs1) H' fun σ3 H5 => wipe σ3 vs1 = wipe σ2 vs1 ∧ tt1 σ3 H5 fun b H6 =>
            if b = true then te σ3 H6 fun y H7 => ∃ acc, H7 D = some (.lst acc) ∧ acc.length < sizeLine ∧ Nx1 (upd H7 D (.lst (acc ++ [y]))) else Nx1 H6) else Nx H3) := by
  refine ⟨fun i m H => m = n - i ∧ i ≤ n ∧ Pv i H, ⟨n, by simp, Nat.zero_le _, h0⟩, ?_⟩
  rintro i m H ⟨rfl, hi, p⟩
  have q := hG i H hi p
  rcases Nat.lt_or_ge i n with c | c
  · exact .inr ⟨w.goes i H c q, Pv (i + 1), fun H' p' => ⟨n - (i + 1), by omega, rfl, c, p'⟩, fun x H' y => hs i x H H' c p (w.yields i H x H' c q y)⟩
  · have e : i = n := Nat.le_antisymm hi c
    subst e
    exact .inl ⟨w.stops H q, hd H p⟩
/-- .. the inner walk over anything -/
theorem lc2_inIt {J : It} {n : Nat} {G : Hp → Prop} {Y : Nat → Hp → V → Hp → Prop} (w : Walk J n G Y) {g1 : TG} {tt1 : TT} {te : TE} {vs1 : List Nat} {σ2 : L2.St} {H4 : Hp} {D : Addr} {Nx : Hp → Prop} (Pv : Nat → Hp → Prop) (h0 : Pv 0 H4) (hG : ∀ i H, i ≤ n → Pv i H → G H)
    (hs : ∀ j x H H0, j < n → Pv j H → Y j H x H0 → g1 x (wipe σ2 vs1) H0 fun σ3 H5 => wipe σ3 vs1 = wipe σ2 vs1 ∧ tt1 σ3 H5 fun c H6 => if c = true then te σ3 H6 fun y H7 => ∃ acc, H7 D = some (.lst acc) ∧ acc.length < sizeLine ∧ Pv (j + 1) (upd H7 D (.lst (acc ++ [y]))) else Pv (j + 1) H6)
    (hd : ∀ H, Pv n H → Nx H) :
    ∃ W1 : Nat → Nat → Hp → Prop, (∃ m, W1 0 m H4) ∧ ∀ j k H, W1 j k H →
      (J.stop j H ∧ Nx H) ∨ (J.go j H ∧ ∃ Nx1 : Hp → Prop, (∀ H', Nx1 H' → ∃ k', k' < k ∧ W1 (j + 1) k' H') ∧ ∀ x H', J.yld j H x H' → g1 x (wipe σ2 vs1) H' fun σ3 H5 => wipe σ3 vs1 = wipe σ2 vs1 ∧ tt1 σ3 H5 fun c H6 =>
        if c = true then te σ3 H6 fun y H7 => ∃ acc, H7 D = some (.lst acc) ∧ acc.length < sizeLine ∧ Nx1 (upd H7 D (.lst (acc ++ [y]))) else Nx1 H6) := by
  refine ⟨fun j m H => m = n - j ∧ j ≤ n ∧ Pv j H, ⟨n, by simp, Nat.zero_le _, h0⟩, ?_⟩
  rintro j m H ⟨rfl, hj, p⟩
  have q := hG j H hj p
  rcases Nat.lt_or_ge j n with c | c
  · exact .inr ⟨w.goes j H c q, Pv (j + 1), fun H' p' => ⟨n - (j + 1), by omega, rfl, c, p'⟩, fun x H' y => hs j x H H' c p (w.yields j H x H' c q y)⟩
  · have e : j = n := Nat.le_antisymm hj c
    subst e
    exact .inl ⟨w.stops H q, hd H p⟩
end Bx
namespace Bx
open PySem PySem.Spec PyProof.Rows L2
theorem call_anyK {X : Cx} {K : PySem.W.Frag} (h : X.K = K) (hc : X.calm = true) : CallR X (.builtin "any") (rAny K) := by
  subst h
  exact cr_any hc
end Bx
/-! closures that are handed on: defs in a def with cells of their own, called where the maker's frame is out of sight -/
namespace Clo
open PySem PySem.Spec PyProof.Rows L2 LamX NdefX
/-! ### the frame of a closure -/
theorem cellsFrom_acc : ∀ (names : List (Str × NameKind)) (n : Nat) (acc : List (Str × Addr)), cellsFrom n names acc = cellsFrom n names [] ++ acc
  | [], _, _ => rfl
  | (x, k) :: r, n, acc => by
    unfold cellsFrom
    split
    · rw [cellsFrom_acc r (n + 1) ((x, n) :: acc), cellsFrom_acc r (n + 1) [(x, n)], List.append_assoc]
      rfl
    · exact cellsFrom_acc r n acc
theorem look_app {α : Type} {l m : List (Str × α)} {x : Str} : (l ++ m).lookup x = (l.lookup x).or (m.lookup x) := List.lookup_append
theorem forIn_same {f g : Str × Value → PUnit → Sem (ForInStep PUnit)} : ∀ (bs : List (Str × Value)), (∀ b ∈ bs, ∀ u, f b u = g b u) → (forIn bs PUnit.unit f : Sem PUnit) = forIn bs PUnit.unit g
  | [], _ => rfl
  | b :: bs, h => by
    rw [List.forIn_cons, List.forIn_cons, h b List.mem_cons_self]
    have ih := forIn_same bs fun c hc => h c (List.mem_cons_of_mem _ hc)
    congr 1
    funext r
    cases r with
    | done u => rfl
    | yield u => cases u; exact ih
/-- a store sees the cells by the name alone -/
theorem store_cells {env : Env} {cs : List (Str × Addr)} {n : Str} {v : Value} (h : env.cells.lookup n = cs.lookup n) : storeName env n v = storeName { env with cells := cs } n v := by
  have hc : PySem.cellOf env n = PySem.cellOf { env with cells := cs } n := by
    unfold PySem.cellOf
    rw [h]
  unfold storeName
  rw [hc]
  rfl
end Clo
namespace Clo
open PySem PySem.Spec PyProof.Rows L2 LamX NdefX
abbrev ownC (n : Nat) (scope : Scope) : List (Str × Addr) := cellsFrom (n + 1) scope.names []
theorem newEnv_clo {M : Model} {A : Around} {E : Value → Shared → Prop} {s : Shared} {scope : Scope} {globals : Addr} {closure : List (Str × Addr)} {binds : List (Str × Value)} {qual : Str} {func : Option Addr} {code : Value} {builtins : Addr} {Q : Env → Shared → Prop}
    (hk : scope.kind = .function) (hkind : ∀ x ∈ binds, scope.names.lookup x.1 = some .local ∨ scope.names.lookup x.1 = some .cell)
    (hcl : ∀ x ∈ binds, closure.lookup x.1 = none)
    (hQ : ∀ s', InCallC s s.heap.objs.size (bindL (fun y => scope.names.lookup y) binds fun _ => none) (ownC s.heap.objs.size scope) (bindC (fun y => scope.names.lookup y) binds fun _ => none) s' →
      Q (newEnv scope s.heap.objs.size globals (ownC s.heap.objs.size scope ++ closure) qual func code none builtins) s') :
    wpAny M A (newFunctionEnv scope globals closure binds qual func code none builtins) Q E s := by
  simp only [newFunctionEnv, Option.isSome_none, Bool.false_eq_true, if_false]
  refine wpAny_bind (wpAny_alloc ?_)
  refine wpAny_bind (wpAny_layCells _ (fun name kind cells => by cases hkc : kind == NameKind.cell <;> simp [hkc]) _ _ _ _ ?_)
  have ok := cellsFrom_ok scope.names (s.heap.push { cls := .type "frame", data := .dict #[] }) (s.heap.objs.size + 1) [] ⟨fun _ _ hm => (nomatch hm), List.Pairwise.nil⟩ (by rw [Heap.size_push]; exact Nat.le_refl _)
  rw [Heap.size_push] at ok
  rw [show ({ s with heap := s.heap.push { cls := .type "frame", data := .dict #[] } } : Shared).heap.objs.size = s.heap.objs.size + 1 from Heap.size_push .., cellsFrom_acc]
  have own : ∀ x ∈ binds, scope.names.lookup x.1 = some .local ∨ (scope.names.lookup x.1 = some .cell ∧ ((ownC s.heap.objs.size scope).lookup x.1).isSome = true) := fun x hx => (hkind x hx).imp id fun z => ⟨z, PySem.W.cellsFrom_some _ _ _ (.inl z)⟩
  rw [forIn_same (g := fun b u => do storeName { newEnv scope s.heap.objs.size globals (ownC s.heap.objs.size scope ++ closure) qual func code none builtins with cells := ownC s.heap.objs.size scope } b.1 b.2; pure (.yield ⟨⟩)) binds fun b hb u => ?_]
  · refine wpAny_bind (wpAny_bindParams (s₀ := s) (env := { newEnv scope s.heap.objs.size globals (ownC s.heap.objs.size scope ++ closure) qual func code none builtins with cells := ownC s.heap.objs.size scope })
      _ (fun _ _ _ => rfl) hk binds (fun _ => none) (fun _ => none) _ _
      ⟨⟨⟨_, _, rfl⟩, (Heap.Ns.new s.heap (.type "frame")).keeps (pushCells_keeps _ _), fun b o e => pushCells_keeps _ _ b o (Heap.get?_push_of_some _ e), Nat.le_refl _⟩,
        fun n c hc => (ok.empty n c (mem_of_lookup hc)).1, ok.apart, fun n c hm => (ok.empty n c hm).2⟩
      own fun s' x => wpAny_pure (hQ s' x))
  · have e : (newEnv scope s.heap.objs.size globals (ownC s.heap.objs.size scope ++ closure) qual func code none builtins).cells.lookup b.1 = (ownC s.heap.objs.size scope).lookup b.1 := by
      show (ownC s.heap.objs.size scope ++ closure).lookup b.1 = _
      rw [look_app, hcl b hb]
      cases (ownC s.heap.objs.size scope).lookup b.1 <;> rfl
    obtain ⟨n, v⟩ := b
    exact congrArg (fun z : Sem Unit => (do z; pure (ForInStep.yield PUnit.unit) : Sem (ForInStep PUnit))) (store_cells (v := v) e)
end Clo
namespace Clo
open PySem PySem.Spec PyProof.Rows L2 LamX NdefX
/-- the names of a closure: the parameters, then the captured ones, then its own; its own may be captured again -/
structure CScope (N ps fr : List Str) (sc : Scope) : Prop where
  kind : sc.kind = .function
  co : sc.isCoroutine = false
  gen : sc.isGenerator = false
  nd : N.Nodup
  pre : N.take (ps.length + fr.length) = ps ++ fr
  par : ∀ x ∈ ps, sc.names.lookup x = some .local ∨ sc.names.lookup x = some .cell
  free : ∀ y ∈ sc.names, y.2 = .free → y.1 ∈ fr
  frk : ∀ x ∈ fr, sc.names.lookup x = some .free
  uq : ∀ y ∈ sc.names, sc.names.lookup y.1 = some y.2
def cscB (N ps fr : List Str) (sc : Scope) : Bool :=
  decide (sc.kind = .function) && !sc.isCoroutine && !sc.isGenerator && decide N.Nodup && decide (N.take (ps.length + fr.length) = ps ++ fr) && ps.all (fun x => decide (sc.names.lookup x = some .local) || decide (sc.names.lookup x = some .cell)) && sc.names.all (fun y => !decide (y.2 = .free) || decide (y.1 ∈ fr)) && fr.all (fun x => decide (sc.names.lookup x = some .free)) && sc.names.all (fun y => decide (sc.names.lookup y.1 = some y.2))
theorem cscope_by {N ps fr : List Str} {sc : Scope} (h : cscB N ps fr sc = true) : CScope N ps fr sc := by
  unfold cscB at h
  simp only [Bool.and_eq_true, Bool.not_eq_true', decide_eq_true_eq, List.all_eq_true, Bool.or_eq_true, decide_eq_false_iff_not] at h
  obtain ⟨⟨⟨⟨⟨⟨⟨⟨h1, h2⟩, h3⟩, h4⟩, h5⟩, h6⟩, h8⟩, h9⟩, h10⟩ := h
  exact ⟨h1, h2, h3, h4, h5, h6, fun y hy e => (h8 y hy).elim (fun z => absurd e z) id, h9, h10⟩
abbrev envC (F : NF) (f L : Addr) : Env := PySem.W.envX F.qual F.scope L f (.ref F.c) (ownC L F.scope ++ F.cl)
def ncxC (CX : CXT) (P : Program) (w : World) (K : PySem.W.Frag) (mg : Str → Option Value) (base : Heap) (N : List Str) (F : NF) (f : Addr) (A : Around) (outer : List Env) (s : Shared) (H : Hp) (E : XK) : Cx where
  prog := P
  w := w
  K := K
  mg := mg
  base := base
  A := A.deeper (envC F f s.heap.objs.size)
  N := N
  s_0 := s
  H_0 := H
  env := envC F f s.heap.objs.size
  outer := outer
  stack := envC F f s.heap.objs.size :: outer
  ex := []
  calm := true
  fn := fun x => decide (F.scope.names.lookup x = some .cell)
  pn := []
  xe := fun e s' => wpAny (model P w) (A.deeper (envC F f s.heap.objs.size)) (leaving (envC F f s.heap.objs.size) e) (fun _ s'' => CX outer H s E e s'') (fun e' s'' => CX outer H s E e' s'') s'
section
variable {CX : CXT} {P : Program} {w : World} {K : PySem.W.Frag} {mg : Str → Option Value} {base : Heap} {N ps fr : List Str} {F : NF} {f : Addr} {A : Around} {outer : List Env} {s s1 : Shared} {H : Hp} {E : XK} {us : List Value} {vs : List V} {ws : List (Option V)}
theorem own_cell {sc : Scope} {n : Nat} {x : Str} {c : Addr} (h : (ownC n sc).lookup x = some c) : (x, NameKind.cell) ∈ sc.names := by
  have gen : ∀ (names : List (Str × NameKind)) (n : Nat) (acc : List (Str × Addr)), (x, c) ∈ cellsFrom n names acc → (x, c) ∈ acc ∨ (x, NameKind.cell) ∈ names := by
    intro names
    induction names with
    | nil => exact fun n acc h => .inl h
    | cons p r ih =>
      intro n acc h
      obtain ⟨y, k⟩ := p
      unfold cellsFrom at h
      split at h
      · rename_i hk
        rcases ih _ _ h with z | z
        · rcases List.mem_cons.mp z with e | z
          · have e1 : x = y := (Prod.mk.inj e).1
            have e2 : k = NameKind.cell := eq_of_beq hk
            exact .inr (by rw [e1, e2]; exact List.mem_cons_self)
          · exact .inl z
        · exact .inr (List.mem_cons_of_mem _ z)
      · rcases ih _ _ h with z | z
        · exact .inl z
        · exact .inr (List.mem_cons_of_mem _ z)
  rcases gen _ _ _ (PySem.mem_of_lookup h) with z | z
  · cases z
  · exact z
theorem inv_startC (S : CScope N ps fr F.scope) (hd : A.handled = none) (e0 : Env0 P w K mg base A outer s H) (hl : vs.length = ps.length) (r : Vals vs us) (C : CellsAt F.cl fr ws s.heap H) (hcl : ∀ y c, F.cl.lookup y = some c → F.scope.names.lookup y = some .free)
    (x : InCallC s s.heap.objs.size (bindL (fun y => F.scope.names.lookup y) (ps.zip us) fun _ => none) (ownC s.heap.objs.size F.scope) (bindC (fun y => F.scope.names.lookup y) (ps.zip us) fun _ => none) s1) :
    Inv (ncxC CX P w K mg base N F f A outer s H E) [] (startF N vs ws) H s1 := by
  have hpl : ps.length + fr.length ≤ N.length := by
    have q := congrArg List.length S.pre
    rw [List.length_take, List.length_append] at q
    omega
  obtain ⟨h1, tk, rfl, hk⟩ := x.done
  have noA : ∀ b : Addr, b ∉ (ncxC CX P w K mg base N F f A outer s H E).ex := fun b z => absurd (show b ∈ ([] : List Addr) from z) (by simp)
  have cellK : ∀ {c : Addr} {v : Option Value}, s.heap.IsCell c v → h1.IsCell c v := fun {c v} ⟨o, ho, hd⟩ => ⟨o, hk _ _ ho, hd⟩
  have cellLt : ∀ {c : Addr} {v : Option Value}, s.heap.IsCell c v → c < s.heap.objs.size := fun z => z.lt
  have look : ∀ y c, (ncxC CX P w K mg base N F f A outer s H E).env.cells.lookup y = some c → (ownC s.heap.objs.size F.scope).lookup y = some c ∨ ((ownC s.heap.objs.size F.scope).lookup y = none ∧ F.cl.lookup y = some c) := fun y c e => by
    have e : (ownC s.heap.objs.size F.scope ++ F.cl).lookup y = some c := e
    rw [look_app] at e
    cases q : (ownC s.heap.objs.size F.scope).lookup y with
    | none => rw [q] at e; exact .inr ⟨rfl, e⟩
    | some c' => rw [q] at e; exact .inl e
  have mk_own : ∀ y c, (ownC s.heap.objs.size F.scope).lookup y = some c → (ncxC CX P w K mg base N F f A outer s H E).env.cells.lookup y = some c := fun y c e => by
    show (ownC s.heap.objs.size F.scope ++ F.cl).lookup y = some c
    rw [look_app, e]; rfl
  have own_k : ∀ y c, (ownC s.heap.objs.size F.scope).lookup y = some c → F.scope.names.lookup y = some .cell := fun y c e => S.uq _ (own_cell e)
  have free_no : ∀ y, F.scope.names.lookup y = some .free → (ownC s.heap.objs.size F.scope).lookup y = none := fun y e => by
    cases q : (ownC s.heap.objs.size F.scope).lookup y with
    | none => rfl
    | some c =>
      rw [own_k y c q] at e
      cases e
  have mk_clo : ∀ y c, F.cl.lookup y = some c → (ncxC CX P w K mg base N F f A outer s H E).env.cells.lookup y = some c := fun y c e => by
    show (ownC s.heap.objs.size F.scope ++ F.cl).lookup y = some c
    rw [look_app, free_no y (hcl y c e)]
    exact e
  have above : ∀ y c, (ownC s.heap.objs.size F.scope).lookup y = some c → s.heap.objs.size < c := fun y c e => x.above y c (PySem.mem_of_lookup e)
  have below : ∀ y c, F.cl.lookup y = some c → c < s.heap.objs.size := fun y c e => by
    obtain ⟨v, z⟩ := (C.all y c e).2
    exact z.lt
  refine ⟨⟨e0.mod, S.kind, rfl, rfl, Nat.le_refl _, fun y z c h1 h2 => ?_, fun y hy => ?_, fun y c z h => ?_, fun _ => hd, Around.frames_deeper e0.frames, .inr ⟨rfl, rfl⟩, fun b z => absurd z (noA b), e0.bs, e0.bsz, fun b _ _ => noA b, fun b z => absurd z (noA b), e0.funs, e0.frf⟩,
    rfl, e0.bare, Un.kept hk, ⟨_, x.toInCall.ns, fun i y v e1 e2 e3 => ?_⟩, fun y c e => ?_, e0.hok.fresh (Nat.le_refl _), fun y c e => ?_, fun q hq => absurd (show q ∈ ([] : List (Addr × Obj)) ++ [] from hq) (by simp), e0.hok.kept hk, ?_⟩
  · rcases look y c h1 with e1 | ⟨_, e1⟩ <;> rcases look z c h2 with e2 | ⟨_, e2⟩
    · exact name_of_addr x.apart (PySem.mem_of_lookup e1) (PySem.mem_of_lookup e2)
    · exact absurd (Nat.lt_trans (above y c e1) (below z c e2)) (Nat.lt_irrefl _)
    · exact absurd (Nat.lt_trans (above z c e2) (below y c e1)) (Nat.lt_irrefl _)
    · exact C.inj y z c e1 e2
  · have hy : F.scope.names.lookup y = some .cell ∨ F.scope.names.lookup y = some .free := hy
    rcases hy with hy | hy
    · obtain ⟨c, e⟩ := cell_has (n := s.heap.objs.size + 1) hy
      exact ⟨c, mk_own y c e⟩
    · obtain ⟨i, hi⟩ := List.mem_iff_getElem?.mp (S.free _ (PySem.mem_of_lookup hy) rfl)
      obtain ⟨c, hc, _⟩ := C.has i y hi
      exact ⟨c, mk_clo y c hc⟩
  · have z : F.scope.names.lookup y = some .cell := of_decide_eq_true z
    rcases look y c h with e | ⟨_, e⟩
    · exact Nat.le_of_lt (above y c e)
    · rw [hcl y c e] at z
      cases z
  · have e1 : N[i]? = some y := e1
    have clen := C.len
    unfold startF at e2
    by_cases h1 : i < ps.length
    · have hq : (ps ++ fr)[i]? = some y := by
        rw [← S.pre, List.getElem?_take_of_lt (by omega)]
        exact e1
      rw [List.getElem?_append_left h1] at hq
      rw [List.getElem?_append_left (by rw [List.length_map]; omega), List.getElem?_map] at e2
      have ha : vs[i]? = some v := by
        cases e : vs[i]? with
        | none => rw [e] at e2; cases e2
        | some a => rw [e] at e2; cases e2; rfl
      obtain ⟨u, hu, rv⟩ := r.get ha
      have ndP : ps.Nodup := by
        have q := S.nd.sublist (List.take_sublist (ps.length + fr.length) N)
        rw [S.pre] at q
        exact (List.nodup_append.mp q).1
      refine ⟨u, rv, ?_⟩
      rcases S.par y (List.mem_of_getElem? hq) with k | k
      · exact .inl ⟨k, bindL_get ndP hq hu k⟩
      · obtain ⟨c, e⟩ := cell_has (n := s.heap.objs.size + 1) k
        refine .inr ⟨.inl k, c, mk_own y c e, ?_⟩
        have q := x.cell y c e
        rw [bindC_get ndP hq hu (by show F.scope.names.lookup y ≠ _; rw [k]; decide)] at q
        exact q
    · rw [List.getElem?_append_right (by rw [List.length_map]; omega), List.length_map] at e2
      by_cases h2 : i < ps.length + fr.length
      · have hq : (ps ++ fr)[i]? = some y := by
          rw [← S.pre, List.getElem?_take_of_lt (by omega)]
          exact e1
        rw [List.getElem?_append_right (by omega)] at hq
        rw [List.getElem?_append_left (by omega), hl] at e2
        obtain ⟨c, hc, hv⟩ := C.has (i - ps.length) y hq
        obtain ⟨u, ru, hu⟩ := hv v e2
        exact ⟨u, ru, .inr ⟨.inr (S.frk y (List.mem_of_getElem? hq)), c, mk_clo y c hc, cellK hu⟩⟩
      · rw [List.getElem?_append_right (by omega), List.getElem?_replicate] at e2
        split at e2 <;> cases e2
  · rcases look y c e with e | ⟨_, e⟩
    · exact ⟨_, x.cell y c e⟩
    · obtain ⟨v, z⟩ := (C.all y c e).2
      exact ⟨v, cellK z⟩
  · rcases look y c e with e | ⟨_, e⟩
    · exact e0.hok.fresh (Nat.le_of_lt (above y c e))
    · exact (C.all y c e).1
  · have clen := C.len
    unfold startF
    show _ = N.length
    rw [List.length_append, List.length_append, List.length_map, List.length_replicate]
    omega
end
end Clo
namespace Clo
open PySem PySem.Spec PyProof.Rows L2 LamX NdefX
section
variable {CX : CXT} {P : Program} {w : World} {K : PySem.W.Frag} {mg : Str → Option Value} {base : Heap} {N ps fr : List Str} {F : NF} {f : Addr} {k : Nat} {sp : List (Option V) → Sp}
/-- a closure by its body -/
theorem nokC_of (S : CScope N ps fr F.scope) (hcl : ∀ y c, F.cl.lookup y = some c → F.scope.names.lookup y = some .free) (hb : ∀ (doc pm ctv : Value) (us : List Value), us.length = ps.length → bindArgs (F.fd doc pm ctv) ⟨us, []⟩ = pure (ps.zip us)) (len : ∀ ws vs H Q E, sp ws vs H Q E → vs.length = ps.length)
    (hbody : ∀ (A : Around) (outer : List Env) (s : Shared) (H : Hp) (vs : List V) (ws : List (Option V)) (Q : VK) (E : XK), Room k (A.deeper (envC F f s.heap.objs.size)) → H f = some (FnO f F) → H F.c = some (CodeO F.c F.qual) → ws.length = fr.length → sp ws vs H Q E →
      ∃ t, PSs (ncxC CX P w K mg base N F f A outer s H E).nox F.body t ∧ t { nx := fun _ H' => Q .non H', rt := Q } (startF N vs ws) H) :
    NOk P w K mg base CX (k + 1) f F ps fr sp := by
  refine ⟨len, fun A outer s H us vs ws Q E hr e0 hf hc C r hsp => ?_⟩
  have hl := len _ _ _ _ _ hsp
  have lim : s.heap.NoLimit := e0.mod.nolimit.keeps fun b o e => (e0.bs b o e).1
  obtain ⟨od, sl, doc, pm, ctv, ho⟩ := fnO_at e0.hok hf
  refine codeAny_call_function hr.depth ho rfl S.co S.gen rfl (codeO_at e0.hok hc) ?_
  rw [hb doc pm ctv us (by rw [← r.length]; exact hl)]
  have hpk : ∀ x ∈ ps.zip us, F.scope.names.lookup x.1 = some .local ∨ F.scope.names.lookup x.1 = some .cell := fun ⟨n, v⟩ hx => S.par n (List.of_mem_zip hx).1
  refine wpAny_pure (newEnv_clo S.kind hpk (fun x hx => ?_) fun s1 x => ?_)
  · show F.cl.lookup x.1 = none
    cases q : F.cl.lookup x.1 with
    | none => rfl
    | some c =>
      have h1 := hcl x.1 c q
      rcases hpk x hx with h2 | h2 <;> rw [h1] at h2 <;> cases h2
  refine ⟨lim.keeps x.toInCall.keep, ?_⟩
  show codeAny _ _ (.func F.body (envC F f s.heap.objs.size)) _ _
  refine codeAny_func ?_
  obtain ⟨t, ht, hq⟩ := hbody A outer s H vs ws Q E (hr.deeper _) hf hc C.len hsp
  have I : Inv (ncxC CX P w K mg base N F f A outer s H E) [] (startF N vs ws) H s1 := inv_startC S hr.hd e0 hl r C hcl x
  refine wpAny_mono (ht.nox.run [] _ (startF N vs ws) H _ I hq) (fun fl s' hs => ?_) fun e s' hs => hs
  have fin : ∀ {σ' : L2.St} {H' : Hp} {v : V} {u : Value}, Inv (ncxC CX P w K mg base N F f A outer s H E) [] σ' H' s' → L2.RelV v u → Q v H' → CE outer P w H s Q u s' :=
    fun {σ' H' v u} J rv q => ⟨v, H', J.os, J.bare, J.base, J.hok, rv, q⟩
  cases fl with
  | ret u =>
    obtain ⟨v, σ', H', J, rv, q⟩ := hs
    exact fin J rv q
  | next =>
    obtain ⟨σ', H', J, q⟩ := hs
    exact fin (v := V.non) (u := Value.none) J rfl q
  | brk =>
    obtain ⟨_, _, _, q⟩ := hs
    exact False.elim q
  | cont =>
    obtain ⟨_, _, _, q⟩ := hs
    exact False.elim q
end
end Clo
namespace Clo
open PySem PySem.Spec PyProof.Rows L2 LamX NdefX
/-! ### cells as known things -/
/-- the object at c is a cell that holds v -/
def CelO (c : Addr) (v : V) : HO := .ext fun h => ∃ u, RelV v u ∧ h.IsCell c (some u)
/-- the cell at c is known, and never written while it is so -/
def CelH (H : Hp) (c : Addr) (v : V) : Prop := ∃ o, H c = some (.frz o (CelO c v))
abbrev adr (cl : List (Str × Addr)) : List Addr := cl.map (·.2)
def remC (cl : List (Str × Addr)) (H : Hp) : Hp := fun b => if b ∈ adr cl then none else H b
def backC (cl : List (Str × Addr)) (H H2 : Hp) : Hp := fun b => if b ∈ adr cl then H b else H2 b
def addC (cl : List (Str × Addr)) (g : Addr → V) (os : Addr → Obj) (H : Hp) : Hp := fun b => if b ∈ adr cl then some (.frz (os b) (CelO b (g b))) else H b
theorem rem_in {cl : List (Str × Addr)} {H : Hp} {b : Addr} (h : b ∈ adr cl) : remC cl H b = none := if_pos h
theorem rem_out {cl : List (Str × Addr)} {H : Hp} {b : Addr} (h : b ∉ adr cl) : remC cl H b = H b := if_neg h
theorem back_in {cl : List (Str × Addr)} {H H2 : Hp} {b : Addr} (h : b ∈ adr cl) : backC cl H H2 b = H b := if_pos h
theorem back_out {cl : List (Str × Addr)} {H H2 : Hp} {b : Addr} (h : b ∉ adr cl) : backC cl H H2 b = H2 b := if_neg h
theorem add_in {cl : List (Str × Addr)} {g : Addr → V} {os : Addr → Obj} {H : Hp} {b : Addr} (h : b ∈ adr cl) : addC cl g os H b = some (.frz (os b) (CelO b (g b))) := if_pos h
theorem add_out {cl : List (Str × Addr)} {g : Addr → V} {os : Addr → Obj} {H : Hp} {b : Addr} (h : b ∉ adr cl) : addC cl g os H b = H b := if_neg h
section
variable {P : Program} {w : World} {H H' H2 : Hp} {h h' : Heap} {cl : List (Str × Addr)}
theorem celO_ok {o : Obj} {c : Addr} {v : V} {u : Value} (e : h.get? c = some o) (r : RelV v u) (d : o.data = .cell (some u)) : ObjOk P w H h c (.frz o (CelO c v)) :=
  ⟨e, ⟨u, r, o, e, d⟩, ⟨o, e⟩, fun h1 h2 ⟨u', r', o', e', d'⟩ st => ⟨u', r', o', st _ e', d'⟩⟩
theorem celO_cell {o : Obj} {c : Addr} {v : V} (x : ObjOk P w H h c (.frz o (CelO c v))) : h.get? c = some o ∧ ∃ u, RelV v u ∧ o.data = .cell (some u) := by
  obtain ⟨e, ⟨u, r, o', e', d⟩, _⟩ := x
  rw [e] at e'
  obtain rfl := Option.some.inj e'
  exact ⟨e, u, r, d⟩
/-- the tracked heap may differ at what is none in one of them -/
theorem hok_sub (x : HOk P w H h) (s : ∀ b o, H' b = some o → H b = some o) (t : ∀ b o, H b = some o → (∃ a, o = .own a) ∨ (∃ xs, o = .tup xs) → H' b = some o) : HOk P w H' h := fun b o e =>
  (x b o (s b o e)).stay (fun _ _ _ q => q) (fun c q => t c _ q (.inl ⟨_, rfl⟩)) fun c xs q => t c _ q (.inr ⟨_, rfl⟩)
theorem hok_rem (x : HOk P w H h) (hc : ∀ b ∈ adr cl, ∃ v, CelH H b v) : HOk P w (remC cl H) h := by
  refine hok_sub x (fun b o e => ?_) fun b o e k => ?_
  · by_cases hb : b ∈ adr cl
    · rw [rem_in hb] at e; cases e
    · rwa [rem_out hb] at e
  · have hb : b ∉ adr cl := fun z => by
      obtain ⟨v, ob, q⟩ := hc b z
      rw [q] at e
      obtain rfl := Option.some.inj e
      rcases k with ⟨a, k⟩ | ⟨a, k⟩ <;> cases k
    rw [rem_out hb]
    exact e
end
end Clo
namespace Clo
open PySem PySem.Spec PyProof.Rows L2 LamX NdefX
section
variable {P : Program} {w : World} {H : Hp} {s s' : Shared} {cl : List (Str × Addr)} {outer : List Env} {Q : VK} {u : Value}
/-- behind a call for which the cells were put out of sight -/
theorem ce_back (hok : HOk P w H s.heap) (hc : ∀ b ∈ adr cl, ∃ v, CelH H b v) (nf : ∀ b ∈ adr cl, b ∉ frs outer) (h : CE outer P w (remC cl H) s (fun v H2 => (∀ b ∈ adr cl, H2 b = none) → Q v (backC cl H H2)) u s') : CE outer P w H s Q u s' := by
  obtain ⟨v, H2, os, bare, un, ok, r, q⟩ := h
  have gone : ∀ b ∈ adr cl, H2 b = none := fun b hcl => by
    obtain ⟨x', o2, e'⟩ := hc b hcl
    obtain ⟨e3, _⟩ := celO_cell (hok b _ e')
    exact un.free b _ e3 (rem_in hcl) (by simp)
  have q := q gone
  have kept : ∀ b ∈ adr cl, ∃ (o : Obj) (x : V), H b = some (.frz o (CelO b x)) ∧ s'.heap.get? b = some o ∧ ∃ y, RelV x y ∧ o.data = .cell (some y) := fun b hb => by
    obtain ⟨x, o, e⟩ := hc b hb
    obtain ⟨e1, y, ry, d⟩ := celO_cell (hok b _ e)
    exact ⟨o, x, e, un.keep b o e1 (rem_in hb) (nf b hb) (by simp), y, ry, d⟩
  refine ⟨v, backC cl H H2, os, bare, ⟨fun b o e n hf hx => ?_, fun b o e n hf hx => ?_, fun b o e n hx => ?_, fun b o e hx => un.there b o e hx, fun b xs e => ?_, fun b o x e => ?_, fun b ps e => ?_⟩, fun b o e => ?_, r, q⟩
  · have hb : b ∉ adr cl := fun z => by obtain ⟨x, o', e'⟩ := hc b z; rw [n] at e'; cases e'
    exact un.keep b o e (by rw [rem_out hb]; exact n) hf hx
  · have hb : b ∉ adr cl := fun z => by obtain ⟨x, o', e'⟩ := hc b z; rw [n] at e'; cases e'
    exact un.slot b o e (by rw [rem_out hb]; exact n) hf hx
  · have hb : b ∉ adr cl := fun z => by obtain ⟨x, o', e'⟩ := hc b z; rw [n] at e'; cases e'
    rw [back_out hb]
    exact un.free b o e (by rw [rem_out hb]; exact n) hx
  · have hb : b ∉ adr cl := fun z => by obtain ⟨x, o', e'⟩ := hc b z; rw [e] at e'; cases e'
    rw [back_out hb]
    exact un.tups b xs (by rw [rem_out hb]; exact e)
  · by_cases hb : b ∈ adr cl
    · rw [back_in hb]; exact e
    · rw [back_out hb]
      exact un.frzs b o x (by rw [rem_out hb]; exact e)
  · have hb : b ∉ adr cl := fun z => by obtain ⟨x, o', e'⟩ := hc b z; rw [e] at e'; cases e'
    rw [back_out hb]
    exact un.tbls b ps (by rw [rem_out hb]; exact e)
  · by_cases hb : b ∈ adr cl
    · rw [back_in hb] at e
      obtain ⟨o', x, e1, e2, y, ry, d⟩ := kept b hb
      rw [e1] at e
      obtain rfl := Option.some.inj e
      exact celO_ok e2 ry d
    · rw [back_out hb] at e
      have hn : ∀ c, (∃ z, H2 c = some z) → c ∉ adr cl := fun c ⟨z, hz⟩ hcl => by
        obtain ⟨o', x, e1, e2, _⟩ := kept c hcl
        obtain ⟨x', o2, e'⟩ := hc c hcl
        obtain ⟨e3, _⟩ := celO_cell (hok c _ e')
        have := un.free c _ e3 (rem_in hcl) (by simp)
        rw [this] at hz
        cases hz
      exact (ok b o e).stay (fun _ _ _ q => q) (fun c q => by rw [back_out (hn c ⟨_, q⟩)]; exact q) fun c xs q => by rw [back_out (hn c ⟨_, q⟩)]; exact q
end
section
variable {X : Cx} {F : NF} {ps fr : List Str} {f : Addr} {j k : Nat} {sp : List (Option V) → Sp} {pins : List (Addr × Obj)} {σ : L2.St} {H : Hp} {s : Shared} {Q : VK} {us : List Value} {vs : List V} {ws : List (Option V)}
/-- what the cells of F hold, as known things -/
structure Cel (F : NF) (fr : List Str) (ws : List (Option V)) (H : Hp) : Prop where
  len : ws.length = fr.length
  all : ∀ b ∈ adr F.cl, ∃ v, CelH H b v
  inj : ∀ x y c, F.cl.lookup x = some c → F.cl.lookup y = some c → x = y
  has : ∀ (i : Nat) (y : Str), fr[i]? = some y → ∃ c, F.cl.lookup y = some c ∧ ∀ v, ws[i]? = some (some v) → CelH H c v
theorem look_adr {cl : List (Str × Addr)} {y : Str} {c : Addr} (h : cl.lookup y = some c) : c ∈ adr cl := List.mem_map.mpr ⟨(y, c), PySem.mem_of_lookup h, rfl⟩
theorem Cel.at (C : Cel F fr ws H) (hok : HOk X.prog X.w H s.heap) : CellsAt F.cl fr ws s.heap (remC F.cl H) := by
  refine ⟨C.len, fun y c e => ⟨rem_in (look_adr e), ?_⟩, C.inj, fun i y e => ?_⟩
  · obtain ⟨v, o, h⟩ := C.all c (look_adr e)
    obtain ⟨e1, u, _, d⟩ := celO_cell (hok c _ h)
    exact ⟨_, o, e1, d⟩
  · obtain ⟨c, hc, hv⟩ := C.has i y e
    refine ⟨c, hc, fun v ev => ?_⟩
    obtain ⟨o, h⟩ := hv v ev
    obtain ⟨e1, u, ru, d⟩ := celO_cell (hok c _ h)
    exact ⟨u, ru, o, e1, d⟩
theorem run_clo (Fn : NOk X.prog X.w X.K X.mg X.base CX0 k f F ps fr sp) (hr : Room j X.A) (hk : k ≤ j) (I : Inv X pins σ H s) (hf : H f = some (FnO f F)) (hc : H F.c = some (CodeO F.c F.qual)) (C : Cel F fr ws H) (r : Vals vs us)
    (q : sp ws vs (remC F.cl H) (fun v H2 => (∀ b ∈ adr F.cl, H2 b = none) → Q v (backC F.cl H H2)) C8.E0) : wpAny (model X.prog X.w) X.A (call (.ref f) us) (EP X pins σ Q) X.xe s := by
  have e0 := I.env0
  have out : ∀ {a : Addr} {o : HO}, H a = some o → (∀ ob x, o ≠ .frz ob x) → a ∉ adr F.cl := fun e n z => by
    obtain ⟨x, ob, e'⟩ := C.all _ z
    rw [e] at e'
    exact n _ _ (Option.some.inj e')
  have rn : ∀ b, H b = none → remC F.cl H b = none := fun b e => by
    by_cases hb : b ∈ adr F.cl
    · exact rem_in hb
    · rw [rem_out hb]; exact e
  have e1 : Env0 X.prog X.w X.K X.mg X.base X.A X.stack s (remC F.cl H) := ⟨e0.frames, e0.mod, fun b o e => ⟨(e0.bs b o e).1, rn b (e0.bs b o e).2⟩, e0.bsz, e0.funs, fun b hb => rn b (e0.frf b hb), hok_rem e0.hok C.all, e0.bare⟩
  have nf : ∀ b ∈ adr F.cl, b ∉ frs X.stack := fun b hb z => by
    obtain ⟨x, o, e'⟩ := C.all b hb
    rw [e0.frf b z] at e'
    cases e'
  refine wpAny_call (codeAny_mono (Fn.run X.A X.stack s (remC F.cl H) us vs ws _ C8.E0 (hr.mono hk) e1 (by rw [rem_out (out hf (fun _ _ z => by unfold FnO at z; cases z))]; exact hf) (by rw [rem_out (out hc (fun _ _ z => by unfold CodeO at z; cases z))]; exact hc) (C.at e0.hok) r q) fun r s' hq => ?_)
  cases r with
  | error e => exact False.elim hq
  | ok fl =>
    cases fl with
    | ret u => exact I.after (ce_back e0.hok C.all nf hq)
    | next => exact False.elim hq
    | brk => exact False.elim hq
    | cont => exact False.elim hq
/-- a closure's promise, its cells put out of sight for the call -/
def CloC (sp : List (Option V) → Sp) (ws : List (Option V)) (vs : List V) (F : NF) (H : Hp) (Q : VK) : Prop := sp ws vs (remC F.cl H) (fun v H2 => (∀ b ∈ adr F.cl, H2 b = none) → Q v (backC F.cl H H2)) C8.E0
/-- f(..), f a name that holds a closure made elsewhere -/
def tCallP (X : Cx) (j : Nat) (i : Nat) (t : TA) : TE := fun σ H Q => ∃ (f : Addr) (F : NF) (ps fr : List Str) (ws : List (Option V)) (sp : List (Option V) → Sp) (k : Nat), σ[i]? = some (some (.ref f)) ∧ H f = some (FnO f F) ∧ k ≤ j ∧ NOk X.prog X.w X.K X.mg X.base CX0 k f F ps fr sp ∧
  t σ H fun vs H1 => H1 f = some (FnO f F) ∧ H1 F.c = some (CodeO F.c F.qual) ∧ Cel F fr ws H1 ∧ CloC sp ws vs F H1 Q
theorem pe_callP {i : Nat} {x : Str} {t : TA} {e : Expr} {es : List Expr} {p pos : Pos} (hr : Room j X.A) (hN : X.N[i]? = some x) (hv : Vis X.env.scope x) (ha : PA X (e :: es) t)
    (hd : (x == ("__debug__" : Str)) = false := by decide) (hcd : (x == ("__classdict__" : Str)) = false := by decide)
    (he : starEach (e :: es) X.env = (false, eval e X.env) :: starEach es X.env := by rfl) (hpl : (backTo pos (starEach es X.env)).any (·.1) = false := by rfl) :
    PE X (.Call (.Name x p) (e :: es) [] pos) (tCallP X j i t) := by
  refine ⟨fun pins s σ H Q I h => ?_⟩
  obtain ⟨f, F, ps, fr, ws, sp, k, hs, hf, hk, Fn, ht⟩ := h
  refine wpAny_Call_Name_kw (thn ((pe_var (pos := p) hN hv hd hcd).run pins s σ H (fun v H1 => v = .ref f ∧ H1 = H) I ⟨.ref f, hs, rfl, rfl⟩) fun u s1 ⟨v, H1, I1, r1, q1⟩ => ?_)
  obtain ⟨ev, eH⟩ := q1
  subst ev
  rw [eH] at I1
  obtain rfl : u = Value.ref f := r1
  refine PySem.W.callWith_F (first := []) (fnAt_of I1 hf) (thn (ha.run pos pins s1 σ H _ I1 ht) fun us s2 ⟨vs, H2, I2, r, h1, h2, C, q⟩ => ⟨fnAt_of I2 h1, ?_⟩) he hpl
  show wpAny _ _ (call (.ref f) us) _ _ _
  exact run_clo Fn hr hk I2 h1 h2 C r q
end
end Clo
namespace Clo
open PySem PySem.Spec PyProof.Rows L2 LamX NdefX
section
variable {P : Program} {w : World} {H : Hp} {s s' : Shared} {cl : List (Str × Addr)} {outer : List Env} {Q : VK} {u : Value} {g : Addr → V} {os : Addr → Obj}
theorem hok_add (x : HOk P w H s.heap) (n : ∀ b ∈ adr cl, H b = none) (c : ∀ b ∈ adr cl, s.heap.get? b = some (os b) ∧ ∃ u, RelV (g b) u ∧ (os b).data = .cell (some u)) : HOk P w (addC cl g os H) s.heap := fun b o e => by
  by_cases hb : b ∈ adr cl
  · rw [add_in hb] at e
    obtain rfl := Option.some.inj e
    obtain ⟨e1, u, r, d⟩ := c b hb
    exact celO_ok e1 r d
  · rw [add_out hb] at e
    have hn : ∀ c, (∃ z, H c = some z) → c ∉ adr cl := fun c ⟨z, hz⟩ hcl => by rw [n c hcl] at hz; cases hz
    exact (x b o e).stay (fun _ _ _ q => q) (fun c q => by rw [add_out (hn c ⟨_, q⟩)]; exact q) fun c xs q => by rw [add_out (hn c ⟨_, q⟩)]; exact q
/-- behind a call for which the cells were made known -/
theorem ce_rem (n : ∀ b ∈ adr cl, H b = none) (c : ∀ b ∈ adr cl, s.heap.get? b = some (os b)) (nf : ∀ b ∈ adr cl, b ∉ frs outer) (h : CE outer P w (addC cl g os H) s (fun v H2 => Q v (remC cl H2)) u s') : CE outer P w H s Q u s' := by
  obtain ⟨v, H2, os', bare, un, ok, r, q⟩ := h
  have frz : ∀ b ∈ adr cl, H2 b = some (.frz (os b) (CelO b (g b))) := fun b hb => un.frzs b _ _ (add_in hb)
  refine ⟨v, remC cl H2, os', bare, ⟨fun b o e hn hf hx => ?_, fun b o e hn hf hx => ?_, fun b o e hn hx => ?_, fun b o e hx => un.there b o e hx, fun b xs e => ?_, fun b o x e => ?_, fun b ps e => ?_⟩, hok_rem ok fun b hb => ⟨g b, os b, frz b hb⟩, r, q⟩
  · by_cases hb : b ∈ adr cl
    · rw [c b hb] at e
      obtain rfl := Option.some.inj e
      exact (ok b _ (frz b hb)).1
    · exact un.keep b o e (by rw [add_out hb]; exact hn) hf hx
  · have hb : b ∉ adr cl := fun z => nf b z hf
    exact un.slot b o e (by rw [add_out hb]; exact hn) hf hx
  · by_cases hb : b ∈ adr cl
    · exact rem_in hb
    · rw [rem_out hb]
      exact un.free b o e (by rw [add_out hb]; exact hn) hx
  · have hb : b ∉ adr cl := fun z => by rw [n b z] at e; cases e
    rw [rem_out hb]
    exact un.tups b xs (by rw [add_out hb]; exact e)
  · have hb : b ∉ adr cl := fun z => by rw [n b z] at e; cases e
    rw [rem_out hb]
    exact un.frzs b o x (by rw [add_out hb]; exact e)
  · have hb : b ∉ adr cl := fun z => by rw [n b z] at e; cases e
    rw [rem_out hb]
    exact un.tbls b ps (by rw [add_out hb]; exact e)
end
section
variable {X : Cx} {sp : Sp} {pins : List (Addr × Obj)} {σ : L2.St} {H : Hp} {s : Shared} {Q : VK} {us : List Value} {vs : List V} {cl : List (Str × Addr)}
/-- the cells that the running def made and that its closures caught -/
structure Own (X : Cx) (cl : List (Str × Addr)) : Prop where
  sub : ∀ p ∈ cl, X.env.cells.lookup p.1 = some p.2
  kin : ∀ p ∈ cl, X.env.scope.names.lookup p.1 = some .cell
  fn : ∀ p ∈ cl, X.fn p.1 = true
theorem Own.made {X : Cx} {scope : Scope} (ok : X.Ok) (hfree : ∀ y ∈ scope.names, y.2 = .free → X.env.scope.names.lookup y.1 = some .cell ∧ X.fn y.1 = true) : Own X (cloFrom X.env.cells scope.names []) := by
  have key : ∀ p ∈ cloFrom X.env.cells scope.names [], X.env.cells.lookup p.1 = some p.2 ∧ X.env.scope.names.lookup p.1 = some .cell ∧ X.fn p.1 = true := fun p hp => by
    rcases cloFrom_mem (n := p.1) (c := p.2) hp with z | ⟨z, e⟩
    · cases z
    · obtain ⟨h1, h2⟩ := hfree _ z rfl
      obtain ⟨c, hc⟩ := ok.has p.1 (.inl h1)
      refine ⟨?_, h1, h2⟩
      rw [e, hc]; rfl
  exact ⟨fun p hp => (key p hp).1, fun p hp => (key p hp).2.1, fun p hp => (key p hp).2.2⟩
theorem Own.app {X : Cx} {a b : List (Str × Addr)} (h : Own X a) (k : Own X b) : Own X (a ++ b) :=
  ⟨fun p hp => (List.mem_append.mp hp).elim (h.sub p) (k.sub p), fun p hp => (List.mem_append.mp hp).elim (h.kin p) (k.kin p), fun p hp => (List.mem_append.mp hp).elim (h.fn p) (k.fn p)⟩
theorem run_add {x : Str} {f : Addr} {fd : FuncData} {ps : List Str} {ds : List Value} {k : Nat} (O : Own X cl) (F : FnOk X.prog X.w X.K X.mg X.base CX0 k f fd ps sp) (hr : Room k X.A) (hb : L2.Binds X.K fd ps []) (I : Inv X pins σ H s) (r : Vals vs us)
    (gn : Str → V) (hg : ∀ p ∈ cl, ∃ j : Nat, X.N[j]? = some p.1 ∧ σ[j]? = some (some (gn p.1)))
    (h : ∀ (g : Addr → V) (os : Addr → Obj), (∀ p ∈ cl, ∀ p' ∈ cl, p.2 = p'.2 → p.1 = p'.1) → (∀ p ∈ cl, g p.2 = gn p.1) → (∀ b ∈ adr cl, H b = none) → sp vs (addC cl g os H) (fun v H2 => Q v (remC cl H2)) C8.E0) : wpAny (model X.prog X.w) X.A (call (.ref f) us) (EP X pins σ Q) X.xe s := by
  have fr := I.freeC
  have nA : ∀ b ∈ adr cl, H b = none := fun b hb => by
    obtain ⟨p, hp, rfl⟩ := List.mem_map.mp hb
    exact fr p.1 p.2 (O.sub p hp)
  have lo : ∀ b ∈ adr cl, X.s_0.heap.objs.size ≤ b := fun b hb => by
    obtain ⟨p, hp, rfl⟩ := List.mem_map.mp hb
    exact I.ok.cab p.1 p.2 (O.fn p hp) (O.sub p hp)
  let g : Addr → V := fun c => gn ((cl.find? fun p => p.2 == c).map (·.1) |>.getD default)
  have hgn : ∀ p ∈ cl, g p.2 = gn p.1 := fun p hp => by
    show gn _ = gn _
    cases q : cl.find? fun z => z.2 == p.2 with
    | none => exact absurd (List.find?_eq_none.mp q p hp) (by simp)
    | some z =>
      have h1 := List.mem_of_find?_eq_some q
      have h2 : z.2 = p.2 := by have := List.find?_some q; exact eq_of_beq this
      have h3 : z.1 = p.1 := I.ok.inj z.1 p.1 p.2 (by rw [← h2]; exact O.sub z h1) (O.sub p hp)
      show gn z.1 = gn p.1
      rw [h3]
  let os : Addr → Obj := fun b => (s.heap.get? b).getD { cls := .none, data := .fields #[] }
  obtain ⟨m, hns, hl⟩ := id I.loc
  have cell : ∀ b ∈ adr cl, s.heap.get? b = some (os b) ∧ ∃ u, RelV (g b) u ∧ (os b).data = .cell (some u) := fun b hb => by
    obtain ⟨p, hp, rfl⟩ := List.mem_map.mp hb
    obtain ⟨j, h1, h2⟩ := hg p hp
    obtain ⟨u, ru, l⟩ := hl j p.1 _ h1 h2 (.inr (.inl (O.kin p hp)))
    rcases l with ⟨z, _⟩ | ⟨_, c, hc, o, ho, hd⟩
    · have z : X.env.scope.names.lookup p.1 = some .local := z
      rw [O.kin p hp] at z
      cases z
    · rw [O.sub p hp] at hc
      cases hc
      have e : os p.2 = o := by show (s.heap.get? p.2).getD _ = o; rw [ho]; rfl
      rw [e, hgn p hp]
      exact ⟨ho, u, ru, hd⟩
  have e0 := I.env0
  have rn : ∀ b, b ∉ adr cl → H b = none → addC cl g os H b = none := fun b hb e => by rw [add_out hb]; exact e
  have nf : ∀ b ∈ adr cl, b ∉ frs X.stack := fun b hb z => by
    have nfs : b ∉ X.fs := fun y => by
      obtain ⟨_, o, e, _⟩ := I.ok.funs.mem y
      exact absurd (Nat.lt_of_lt_of_le (Heap.lt_size e) (lo b hb)) (Nat.lt_irrefl _)
    rcases I.ok.stk with e | ⟨e, e2⟩
    · rw [e] at z
      exact nfs z
    · rw [e] at z
      have z : b ∈ List.filterMap (·.frame) (X.env :: X.outer) := z
      rw [List.filterMap_cons, e2] at z
      rcases List.mem_cons.mp z with z | z
      · obtain ⟨od, es, ep, eo, ex, ed, _⟩ := hns
        obtain ⟨e1, u, _, d⟩ := cell b hb
        subst z
        rw [eo] at e1
        rw [← Option.some.inj e1, ex] at d
        cases d
      · exact nfs z
  have e1 : Env0 X.prog X.w X.K X.mg X.base X.A X.stack s (addC cl g os H) := ⟨e0.frames, e0.mod, fun b o e => ⟨(e0.bs b o e).1, rn b (fun z => by
      exact absurd (Nat.lt_of_lt_of_le (Heap.lt_size e) (Nat.le_trans I.ok.bsz (lo b z))) (Nat.lt_irrefl _)) (e0.bs b o e).2⟩, e0.bsz, e0.funs, fun b hb => rn b (fun z => nf b z hb) (e0.frf b hb), hok_add e0.hok nA cell, e0.bare⟩
  have q := h g os (fun p hp p' hp' e => I.ok.inj p.1 p'.1 p.2 (O.sub p hp) (by rw [e]; exact O.sub p' hp')) hgn nA
  have hl2 : us.length = ps.length := by rw [← r.length]; exact F.len _ _ _ _ q
  have hb' : BindsTo s fd ⟨us, []⟩ (ps.zip us) := by
    have z := hb s us I.kIn (by rw [List.append_nil]; exact hl2)
    rw [List.append_nil] at z
    exact z
  refine wpAny_call (codeAny_mono (F.run X.A X.stack s (addC cl g os H) ⟨us, []⟩ us vs _ C8.E0 hr e1 hb' r q) fun r s' hq => ?_)
  cases r with
  | error e => exact False.elim hq
  | ok fl =>
    cases fl with
    | ret u => exact I.after (ce_rem nA (fun b hb => (cell b hb).1) nf hq)
    | next => exact False.elim hq
    | brk => exact False.elim hq
    | cont => exact False.elim hq
/-- f(..), closures of this def among the arguments: their cells are known to f -/
def tCallAdd (X : Cx) (cl : List (Str × Addr)) (sp : Sp) (t : TA) : TE := fun σ H Q => t σ H fun vs H1 => ∃ gn : Str → V, (∀ p ∈ cl, ∃ j : Nat, X.N[j]? = some p.1 ∧ σ[j]? = some (some (gn p.1))) ∧
  ∀ (g : Addr → V) (os : Addr → Obj), (∀ p ∈ cl, ∀ p' ∈ cl, p.2 = p'.2 → p.1 = p'.1) → (∀ p ∈ cl, g p.2 = gn p.1) → (∀ b ∈ adr cl, H1 b = none) → sp vs (addC cl g os H1) (fun v H2 => Q v (remC cl H2)) C8.E0
theorem pe_cAdd {x : Str} {k j : Nat} {p pos : Pos} {e : Expr} {es : List Expr} {t : TA} (O : X.Ok → Own X cl) (c : C8.Cal X.prog X.w X.K X.mg X.base k x sp []) (hr : Room j X.A) (hk : k ≤ j) (hg : Gl X x) (ha : PA X (e :: es) t)
    (hdb : (x == ("__debug__" : Str)) = false := by decide) (he : starEach (e :: es) X.env = (false, eval e X.env) :: starEach es X.env := by rfl) (hpl : (backTo pos (starEach es X.env)).any (·.1) = false := by rfl) :
    PE X (.Call (.Name x p) (e :: es) [] pos) (tCallAdd X cl sp t) := by
  obtain ⟨f, fd, ps, ds, F, hm, kp, b, d⟩ := c.ex
  have ed : ds = [] := by cases d; rfl
  subst ed
  refine ⟨fun pins s σ H Q I h => ?_⟩
  refine wpAny_Call_Name_kw (ld_glob I hg hm ?_ hdb)
  refine PySem.W.callWith_K (h₀ := X.base) I.ok.mod.kin kp (thn (ha.run pos pins s σ H _ I h) fun us s1 ⟨vs, H1, I1, r, gn, hgn, q⟩ => ⟨I1.kIn, ?_⟩) he hpl
  exact run_add (x := x) (ds := []) (O I1.ok) F (hr.mono hk) b I1 r gn hgn q
end
end Clo
namespace Clo
open PySem PySem.Spec PyProof.Rows L2 LamX NdefX
/-! ### defs whose code object is told -/
structure FunC (K : PySem.W.Frag) (x qual : Str) (st : Stmt) (f : Addr) (fd : FuncData) (c : Addr) : Prop where
  ex : ∃ (oc : Value) (od : Option Addr) (kV doc pm : Value) (an : Option Addr) (ct : Value) (osl : Array (Option Value)),
    fd = PySem.W.fnOf x qual (defArgs st) (defBody st) (defScope st) .none kV doc pm an (.ref c) ct ∧ K.lookup f = some ⟨oc, od, .func fd, osl⟩ ∧ PySem.W.codeIn K (.ref c) qual = true
  kp : PySem.W.keepIn K (.ref f) = true
structure HasC (K : PySem.W.Frag) (mg : Str → Option Value) (x : Str) (st : Stmt) (ps : List Str) (c : Addr) : Prop where
  ex : ∃ (f : Addr) (fd : FuncData), FunC K x x st f fd c ∧ mg x = some (.ref f) ∧ L2.Binds K fd ps []
theorem func_mk {K : PySem.W.Frag} {x qual : Str} {st : Stmt} {f c : Addr} {oc : Value} {od an : Option Addr} {osl : Array (Option Value)} {kV doc pm ct : Value} (l : K.lookup f = some ⟨oc, od, .func (PySem.W.fnOf x qual (defArgs st) (defBody st) (defScope st) .none kV doc pm an (.ref c) ct), osl⟩)
    (cc : PySem.W.codeIn K (.ref c) qual = true) (k : PySem.W.keepIn K (.ref f) = true) : FunC K x qual st f (PySem.W.fnOf x qual (defArgs st) (defBody st) (defScope st) .none kV doc pm an (.ref c) ct) c := ⟨⟨oc, od, kV, doc, pm, an, ct, osl, rfl, l, cc⟩, k⟩
section
variable {P : Program} {w : World} {K : PySem.W.Frag} {mg : Str → Option Value} {base : Heap}
theorem FunC.ok {x qual : Str} {st : Stmt} {f c : Addr} {fd : FuncData} {N ps : List Str} {k : Nat} {sp : Sp} (F : FunC K x qual st f fd c) (S : FnScope N ps (defScope st)) (len : ∀ vs H Q E, sp vs H Q E → vs.length = ps.length)
    (hbody : ∀ (A : Around) (outer : List Env) (s : Shared) (H : Hp) (vs : List V) (Q : VK) (E : XK), Room k (A.deeper (envOfC qual (defScope st) s.heap.objs.size f (.ref c))) → sp vs H Q E →
      ∃ t, PSs (cxOf CX0 P w K mg base N qual (defScope st) f (.ref c) A outer s H E).nox (defBody st) t ∧ t { nx := fun _ H' => Q .non H', rt := Q } (start N vs) H) : FnOk P w K mg base CX0 (k + 1) f fd ps sp := by
  obtain ⟨oc, od, kV, doc, pm, an, ct, osl, rfl, lk, hcd⟩ := F.ex
  refine fn_of lk hcd S len fun A outer s H vs Q E hr hsp => ?_
  obtain ⟨t, h, q⟩ := hbody A outer s H vs Q E hr hsp
  exact ⟨t, h.nox, q⟩
theorem FunC.okX {x qual : Str} {st : Stmt} {f c : Addr} {fd : FuncData} {N ps : List Str} {k : Nat} {sp : Sp} (F : FunC K x qual st f fd c) (S : FnScope N ps (defScope st)) (len : ∀ vs H Q E, sp vs H Q E → vs.length = ps.length)
    (hbody : ∀ (A : Around) (outer : List Env) (s : Shared) (H : Hp) (vs : List V) (Q : VK) (E : XK), Room k (A.deeper (envOfC qual (defScope st) s.heap.objs.size f (.ref c))) → sp vs H Q E →
      ∃ t, PSs (cxOf (L2.CX P w) P w K mg base N qual (defScope st) f (.ref c) A outer s H E) (defBody st) t ∧ t { nx := fun _ H' => Q .non H', rt := Q } (start N vs) H) : FnOk P w K mg base (L2.CX P w) (k + 1) f fd ps sp := by
  obtain ⟨oc, od, kV, doc, pm, an, ct, osl, rfl, lk, hcd⟩ := F.ex
  exact fn_of lk hcd S len fun A outer s H vs Q E hr hsp => hbody A outer s H vs Q E hr hsp
end
/-- where the code object c keeps the code objects of the defs in its def -/
def codeTab (K : PySem.W.Frag) (c : Addr) : Option Addr := match K.lookup c with
  | some ⟨.type "code", _, .fields vs, _⟩ => (match (vs[11]? : Option Value) with
    | some (.ref P) => some P
    | _ => none)
  | _ => none
/-! ### closures made -/
theorem clo_free {N ps fr : List Str} {sc : Scope} (S : CScope N ps fr sc) {cells : List (Str × Addr)} {y : Str} {c : Addr} (h : (cloFrom cells sc.names []).lookup y = some c) : sc.names.lookup y = some .free := by
  rcases cloFrom_mem (PySem.mem_of_lookup h) with z | ⟨z, _⟩
  · cases z
  · exact S.uq _ z
section
variable {X : Cx}
theorem Own.made2 {scope sc : Scope} (hs : X.env.scope = sc) (hfn : ∀ x, X.fn x = true) (h : (scope.names.all fun y => !decide (y.2 = .free) || decide (sc.names.lookup y.1 = some .cell)) = true) (ok : X.Ok) : Own X (cloFrom X.env.cells scope.names []) :=
  Own.made ok fun y hy e => by
    have := List.all_eq_true.mp h y hy
    rw [hs]
    refine ⟨?_, hfn _⟩
    rw [e] at this
    simpa using this
/-- def name(..) in a def -/
theorem ps_nd {T : List NTab} {nm : Nat → Nat → Str} {c P : Addr} {name : Str} {st : Stmt} {sc : Scope} {pos : Pos} {i : Nat} (TB : TabB X.base X.mg c P) (hst : st = .FunctionDef name (C8.fnArgs st) (C8.fnBody st) [] none [] (C8.fnScope st) none name pos) (hcode : X.env.code = .ref c) (hm : (P, nm) ∈ T)
    (hn : nm pos.line pos.col = X.env.qual ++ name) (hu : ∀ p ∈ T, p.1 = P → p.2 = nm) (hs : X.env.scope = sc) (hfree : ((C8.fnScope st).names.all fun y => !decide (y.2 = .free) || decide (sc.names.lookup y.1 = some .cell)) = true) (hd0 : (C8.fnArgs st).defaults = []) (hk0 : (C8.fnArgs st).kw_defaults = [])
    (ha : annTrees (C8.fnArgs st) none X.env = []) (hN : X.N.Nodup) (hi : X.N[i]? = some name) (hx : Loc X.env.scope name) (hf : X.fn name = true ∨ X.env.scope.names.lookup name = some .local) :
    PS X st (tNdefM T i (NF.of st name (X.env.qual ++ name) (cloFrom X.env.cells (C8.fnScope st).names []))) :=
  ps_ndefMS hst TB hcode hm hn hu (fun y hy e => by
    have := List.all_eq_true.mp hfree y hy
    rw [hs]
    rw [e] at this
    exact .inl (by simpa using this)) hd0 hk0 ha hN hi hx hf
end
/-! ### what is known of the cells of a closure -/
theorem cel_of {F : NF} {fr : List Str} {cl : List (Str × Addr)} {g : Addr → V} {os : Addr → Obj} {gn : Str → V} {H : Hp} {cells : List (Str × Addr)} {names : List (Str × NameKind)} (hF : F.cl = cloFrom cells names []) (hfr : ∀ y ∈ fr, (y, NameKind.free) ∈ names) (sub : ∀ p ∈ F.cl, p ∈ cl)
    (inj : ∀ p ∈ cl, ∀ p' ∈ cl, p.2 = p'.2 → p.1 = p'.1) (hg : ∀ p ∈ cl, g p.2 = gn p.1) : Cel F fr (fr.map fun y => some (gn y)) (addC cl g os H) := by
  have inn : ∀ {y : Str} {c : Addr}, F.cl.lookup y = some c → (y, c) ∈ cl := fun e => sub _ (PySem.mem_of_lookup e)
  have cel : ∀ {y : Str} {c : Addr}, (y, c) ∈ cl → CelH (addC cl g os H) c (gn y) := fun {y c} h => by
    refine ⟨os c, ?_⟩
    rw [add_in (List.mem_map.mpr ⟨(y, c), h, rfl⟩), hg (y, c) h]
  refine ⟨List.length_map _, fun b hb => ?_, fun x y c h1 h2 => inj (x, c) (inn h1) (y, c) (inn h2) rfl, fun i y e => ?_⟩
  · obtain ⟨p, hp, rfl⟩ := List.mem_map.mp hb
    exact ⟨_, cel (y := p.1) (sub p hp)⟩
  · have hm := cloFrom_has (cells := cells) (acc := []) (hfr y (List.mem_of_getElem? e))
    rw [← hF] at hm
    obtain ⟨c, hc⟩ := mem_lookup hm
    refine ⟨c, hc, fun v ev => ?_⟩
    rw [List.getElem?_map, e] at ev
    have ev : some (gn y) = some v := Option.some.inj ev
    rw [← Option.some.inj ev]
    exact cel (inn hc)
theorem Cel.ext {F : NF} {fr : List Str} {ws : List (Option V)} {H H' : Hp} (C : Cel F fr ws H) (s : ∀ b o, H b = some o → H' b = some o) : Cel F fr ws H' :=
  ⟨C.len, fun b hb => let ⟨v, o, e⟩ := C.all b hb; ⟨v, o, s _ _ e⟩, C.inj, fun i y e => let ⟨c, h1, h2⟩ := C.has i y e; ⟨c, h1, fun v ev => let ⟨o, e⟩ := h2 v ev; ⟨o, s _ _ e⟩⟩⟩
/-- the heap without tables -/
def nt (H : Hp) : Hp := fun b => match H b with
  | some (.tbl _) => none
  | x => x
theorem nt_of {H : Hp} {b : Addr} {o : HO} (h : nt H b = some o) : H b = some o ∧ ∀ ps, o ≠ .tbl ps := by
  unfold nt at h
  split at h
  · cases h
  · rename_i x hx
    refine ⟨h, fun ps e => ?_⟩
    rw [e] at h
    exact hx ps h
theorem nt_get {H : Hp} {b : Addr} {o : HO} (h : H b = some o) (n : ∀ ps, o ≠ .tbl ps) : nt H b = some o := by
  unfold nt
  rw [h]
  cases o with
  | tbl ps => exact absurd rfl (n ps)
  | _ => rfl
theorem rem_keep {cl : List (Str × Addr)} {H2 : Hp} (hc : ∀ b ∈ adr cl, ∃ o x, H2 b = some (.frz o x)) {b : Addr} {o : HO} (h : H2 b = some o) (n : ∀ ob x, o ≠ .frz ob x) : remC cl H2 b = some o := by
  rw [rem_out fun z => ?_]
  · exact h
  · obtain ⟨ob, x, e⟩ := hc b z
    rw [h] at e
    exact n _ _ (Option.some.inj e)
theorem add_frz {cl : List (Str × Addr)} {g : Addr → V} {os : Addr → Obj} {H1 H2 : Hp} (s : ∀ b o, addC cl g os H1 b = some o → H2 b = some o) : ∀ b ∈ adr cl, ∃ o x, H2 b = some (.frz o x) := fun b hb => ⟨_, _, s _ _ (add_in hb)⟩
theorem add_keep {cl : List (Str × Addr)} {g : Addr → V} {os : Addr → Obj} {H1 : Hp} (n : ∀ b ∈ adr cl, H1 b = none) : ∀ b o, H1 b = some o → addC cl g os H1 b = some o := fun b o e => by
  rw [add_out fun z => ?_]
  · exact e
  · rw [n b z] at e; cases e
theorem add_same {cl : List (Str × Addr)} {g : Addr → V} {os : Addr → Obj} {H1 H2 : Hp} (n : ∀ b ∈ adr cl, H1 b = none) (s : ∀ b o, addC cl g os H1 b = some o → H2 b = some o) : ∀ b o, H1 b = some o → remC cl H2 b = some o := fun b o e => by
  rw [rem_out fun z => ?_]
  · exact s _ _ (add_keep n b o e)
  · rw [n b z] at e; cases e
theorem Cel.keep {F : NF} {fr : List Str} {ws : List (Option V)} {H : Hp} (C : Cel F fr ws H) {b : Addr} {o : HO} (h : H b = some o) (n : ∀ ob x, o ≠ .frz ob x) : remC F.cl H b = some o := by
  rw [rem_out fun z => ?_]
  · exact h
  · obtain ⟨v, ob, e⟩ := C.all b z
    rw [h] at e
    exact n _ _ (Option.some.inj e)
theorem Cel.back {F : NF} {fr : List Str} {ws : List (Option V)} {H H2 : Hp} (C : Cel F fr ws H) (s : ∀ b o, remC F.cl H b = some o → H2 b = some o) : ∀ b o, H b = some o → backC F.cl H H2 b = some o := fun b o e => by
  by_cases z : b ∈ adr F.cl
  · rw [back_in z]; exact e
  · rw [back_out z]; exact s _ _ (by rw [rem_out z]; exact e)
theorem back_new {cl : List (Str × Addr)} {H H2 : Hp} (n : ∀ b ∈ adr cl, H2 b = none) {b : Addr} {o : HO} (h : H2 b = some o) : backC cl H H2 b = some o := by
  rw [back_out fun z => ?_]
  · exact h
  · rw [n b z] at h; cases h
theorem ExtN.nt {H H' : Hp} (e : ExtN H H') : ∀ b o, Clo.nt H b = some o → H' b = some o := fun b o h => e b o (nt_of h).1 (nt_of h).2
end Clo
namespace Bx
open PySem PySem.Spec PyProof.Rows L2
/-! a dict comprehension whose keys are tuples -/
/-- one entry more, the key an int, a text or a tuple of such -/
theorem put_in {X : Cx} {pins : List (Addr × Obj)} {σ : L2.St} {H H' : Hp} {s : Shared} {E : Value → Shared → Prop} {D : Addr} {y z : V} {u r : Value} {Q : Unit → Shared → Prop} (hu : X.A.units + 1 < cLine) (I : Inv X pins σ H s) (g : DPut H D y z H') (ry : RelV y u) (rz : RelV z r)
    (h : ∀ s', Inv X pins σ H' s' → Q () s') : wpAny (model X.prog X.w) X.A (dictSet D u r) Q E s := by
  rcases g with ⟨kvs, k, e, rfl, l, rfl⟩ | ⟨kvs, k, b, e, rfl, eb, l, rfl⟩
  · exact d_dictSet I e l ry rz h
  · cases (show u = Value.ref b from ry)
    obtain ⟨zl, hsm, xs, rel, DO⟩ := dt_of I.hok e
    have hl : (putK kvs k z).length ≤ sizeLine := by have := length_putK kvs k z; omega
    refine wpAny_dictSet_heap (knd := tupleKind (mixKind X.prog X.w)) (Nat.lt_of_le_of_lt (Nat.le_succ _) hu) (key_of I.hok eb) DO (fun h' DO' sb => ?_) (by rw [← Paired.length rel]; exact zl)
    obtain ⟨q, es, ep, hq, h2, h3, h4, _, h5⟩ := DO'
    refine h _ ?_
    refine d_write I (by rw [e]; exact True.intro) sb ⟨q, hq⟩ ⟨hl, hsm, _, (rel.put k eb rz).keeps fun c ys ec => ?_, q, es, ep, hq, h2, h3, h4, h5⟩
    rw [upd_ne (ne_of ec e (fun z => nomatch z))]
    exact ec
/-- {k: v for ..}: the new dict D, an entry a turn -/
def tDcT (wi : TI) (g : TG) (tt : TT) (tk tv : TE) (vs : List Nat) : TE := fun σ H Q => wi σ H fun J H1 => ∀ D, H1 D = none → ∃ W : Nat → Nat → Hp → Prop, (∃ m, W 0 m (upd H1 D (.dT []))) ∧ ∀ i m H2, W i m H2 →
  (J.stop i H2 ∧ Q (.ref D) H2) ∨ (J.go i H2 ∧ ∃ Nx : Hp → Prop, (∀ H', Nx H' → ∃ m', m' < m ∧ W (i + 1) m' H') ∧ ∀ x H3, J.yld i H2 x H3 → g x (wipe σ vs) H3 fun σ2 H4 => wipe σ2 vs = wipe σ vs ∧ tt σ2 H4 fun b H5 =>
    if b = true then tk σ2 H5 fun y H6 => tv σ2 H6 fun z H7 => ∃ H8, DPut H7 D y z H8 ∧ Nx H8 else Nx H5)
theorem pe_dcT {X : Cx} {kx vx tg iter : Expr} {ifs : List Expr} {scope : Scope} {own : List (Str × Nat)} {pos : Pos} {wi : TI} {g : TG} {tt : TT} {tk tv : TE} (hu : X.A.units + 1 < cLine) (hc : X.calm = true) (hN : X.N.Nodup) (hi : PI X tg iter wi) (ok : BlkOk X.N X.env.scope scope own)
    (hg : ∀ (s : Shared) (H : Hp) (C : Addr) (cl : List (Str × Addr)) (fp : List Addr), PG (X.blk s H scope (compEnvC scope cl C X.env) fp) tg g) (ht : ∀ (s : Shared) (H : Hp) (C : Addr) (cl : List (Str × Addr)) (fp : List Addr), PTs (X.blk s H scope (compEnvC scope cl C X.env) fp) ifs tt)
    (hk : ∀ (s : Shared) (H : Hp) (C : Addr) (cl : List (Str × Addr)) (fp : List Addr), PE (X.blk s H scope (compEnvC scope cl C X.env) fp) kx tk)
    (he : ∀ (s : Shared) (H : Hp) (C : Addr) (cl : List (Str × Addr)) (fp : List Addr), PE (X.blk s H scope (compEnvC scope cl C X.env) fp) vx tv) (hs : ∀ x, foldedSetIterable iter X.env x = pure x := by intro _; rfl) :
    PE X (.DictComp kx vx [⟨tg, iter, ifs, 0⟩] scope pos) (tDcT wi g tt tk tv (own.map (·.2))) := by
  refine ⟨fun pins s σ H Q I h => ?_⟩
  rw [arm_eval_DictComp]
  refine wpAny_comprehension_free (use := none) rfl hs (closure_ok fun y hy e => (ok.free y hy e).elim (fun k => I.ok.has _ (.inl k)) (fun k => I.ok.has _ (.inr k))) ok.kind (fun y hy e => by rw [ok.uniq y hy, e]) (thn (hi.run pins s σ H _ I h) fun xv s1 hx => thn hx fun itv s2 h2 => ?_)
  obtain ⟨it, fp, tn, J, H2, rfl, I2, T, st2, f2, q⟩ := h2
  refine wpAny_newObj_type (newEnv_comp ?_)
  obtain ⟨D, hD⟩ : ∃ D, D = s2.heap.objs.size := ⟨_, rfl⟩
  rw [← hD]
  obtain ⟨W, ⟨m0, w0⟩, turn⟩ := q D (I2.hok.fresh (Nat.le_of_eq hD.symm))
  obtain ⟨H3, hH3⟩ : ∃ H3, H3 = upd H2 D (.dT []) := ⟨_, rfl⟩
  obtain ⟨s3, hs3⟩ : ∃ s3 : Shared, s3 = { s2 with heap := s2.heap.push { cls := .type "dict", data := .dict #[] } } := ⟨_, rfl⟩
  have hp3 : s3.heap = s2.heap.push { cls := .type "dict", data := .dict #[] } := by rw [hs3]
  have I3 : Inv X pins σ H3 s3 := by
    rw [hs3, hH3, hD]
    exact I2.laid (t' := s2.toks) (fun b o e => Heap.get?_push_of_some _ e) (Nat.le_refl _) (dt_empty s2.heap I2.big)
  have f3 : ∀ b ∈ fp, FpOk X pins H3 b ∧ b < s3.heap.objs.size := fun b hb => by
    obtain ⟨o, e, _⟩ := T.obj _ _ st2 b hb
    have lt := Heap.lt_size e
    refine ⟨⟨?_, (f2 b hb).2⟩, by rw [hp3, Heap.size_push]; exact Nat.lt_succ_of_lt lt⟩
    rw [hH3, upd_ne (by rw [hD]; exact Nat.ne_of_lt lt)]
    exact (f2 b hb).1
  have I4 := block_start I3 ok hN f3
  rw [← hH3] at w0
  have st4 : tn 0 (pushCells (s3.heap.push { cls := .type "dict", data := .dict #[] }) scope.names) :=
    T.keep _ _ _ st2 fun b _ o e => pushCells_keeps _ _ _ _ (Heap.get?_push_of_some _ (by rw [hp3]; exact Heap.get?_push_of_some _ e))
  have core : codeAny (model X.prog X.w) X.A (.compStart (.DictComp kx vx [⟨tg, iter, ifs, 0⟩] scope pos) 0 (.ref it) (.ref D) (compEnvC scope (cellsFrom (s3.heap.objs.size + 1) scope.names (cloFrom X.env.cells scope.names [])) s3.heap.objs.size X.env))
      (compPost (model X.prog X.w) X.A X.xe none (EP X pins σ Q) (.ref D) s3.heap.objs.size) { s3 with heap := pushCells (s3.heap.push { cls := .type "dict", data := .dict #[] }) scope.names } := by
    have pg := hg s3 H3 s3.heap.objs.size (cellsFrom (s3.heap.objs.size + 1) scope.names (cloFrom X.env.cells scope.names [])) fp
    have pt := ht s3 H3 s3.heap.objs.size (cellsFrom (s3.heap.objs.size + 1) scope.names (cloFrom X.env.cells scope.names [])) fp
    have pk := hk s3 H3 s3.heap.objs.size (cellsFrom (s3.heap.objs.size + 1) scope.names (cloFrom X.env.cells scope.names [])) fp
    have pe := he s3 H3 s3.heap.objs.size (cellsFrom (s3.heap.objs.size + 1) scope.names (cloFrom X.env.cells scope.names [])) fp
    have cL : (compEnvC scope (cellsFrom (s3.heap.objs.size + 1) scope.names (cloFrom X.env.cells scope.names [])) s3.heap.objs.size X.env).locals = s3.heap.objs.size := rfl
    generalize compEnvC scope (cellsFrom (s3.heap.objs.size + 1) scope.names (cloFrom X.env.cells scope.names [])) s3.heap.objs.size X.env = ce at I4 pg pt pk pe cL ⊢
    have lay : ∀ {σ' : L2.St} {H' : Hp} {s' : Shared}, Inv (X.blk s3 H3 scope ce fp) [] σ' H' s' → (∀ b ∈ fp, H' b = none) → ∀ b ∈ fp, FpOk (X.blk s3 H3 scope ce fp) [] H' b := fun I' n b hb => ⟨n b hb, (I'.ok.exf b hb).1, I'.ok.exfs b hb, .inl hb, fun x c e => (I'.ok.exf b hb).2 x c e, fun p hp => nomatch (show p ∈ ([] : List (Addr × Obj)) from hp)⟩
    have turns : codeAny (model X.prog X.w) X.A (.compLoop (.DictComp kx vx [⟨tg, iter, ifs, 0⟩] scope pos) 0 (.ref it) (.ref D) ce) (compPost (model X.prog X.w) X.A X.xe none (EP X pins σ Q) (.ref D) s3.heap.objs.size) { s3 with heap := pushCells (s3.heap.push { cls := .type "dict", data := .dict #[] }) scope.names } := by
      refine compLoop_anyD (fun n s' => ∃ i H', Inv (X.blk s3 H3 scope ce fp) [] (wipe σ (own.map (·.2))) H' s' ∧ tn i s'.heap ∧ (∀ b ∈ fp, H' b = none) ∧ W i n H') ?_ m0 ⟨0, H3, I4, st4, fun b hb => (f3 b hb).1.1, w0⟩
      rintro n s5 ⟨i, H5, I5, st5, n5, w5⟩
      rcases turn i n H5 w5 with ⟨stop, qq⟩ | ⟨go, Nx, hNx, step⟩
      · refine thnF (T.done (X.blk s3 H3 scope ce fp) rfl rfl rfl hc i [] s5 _ H5 (fun _ _ => False) I5 (lay I5 n5) st5 stop) fun r s6 ⟨hr, I6⟩ => ?_
        subst hr
        have I7 : Inv X pins σ H5 s6 := I3.call' (ch := fp) I6.os I6.base I6.hok I6.bare fun b hb => ⟨(f3 b hb).1.2.2.2.1, (f3 b hb).1.2.1, (f3 b hb).1.2.2.2.2.1, (f3 b hb).1.2.2.2.2.2⟩
        have nC : H5 s3.heap.objs.size = none := by
          have zz : H5 ce.locals = none := I6.free
          rwa [cL] at zz
        obtain ⟨mm, hn, _⟩ := I6.loc
        have hn : s6.heap.Ns ce.locals mm := hn
        rw [cL] at hn
        obtain ⟨f0, f1, f4, f5, f6, f7⟩ := I3.fpOk (Nat.le_refl _) nC
        exact ⟨mm, hn, fun h'' sb => ⟨.ref D, H5, I7.turned (t' := s6.toks) (fun b o hb e => (sb.2 b hb).trans e) f0 f1 f5 f6 f7, rfl, qq⟩⟩
      · refine thnF (T.item (X.blk s3 H3 scope ce fp) rfl rfl rfl hc i [] s5 _ H5 (fun _ _ => False) I5 (lay I5 n5) st5 go) fun r s6 ⟨u, hr, h6⟩ => ?_
        subst hr
        refine thnF h6 fun _ s7 ⟨x, H7, I7, r7, y7, st7, n7⟩ => ?_
        refine thnF (pg.run _ s7 _ H7 x u _ (I7.pinned (lay I7 n7) (T.obj _ _ st7)) r7 (step x H7 y7)) fun _ s8 ⟨σ8, H8, I8, hw8, q8⟩ => ?_
        refine thnF (pt.run _ s8 σ8 H8 _ I8 q8) fun b s9 ⟨H9, I9, q9⟩ => ?_
        have next : ∀ {s' : Shared} {H' : Hp}, Inv (X.blk s3 H3 scope ce fp) ([] ++ pinsAt fp s7.heap) σ8 H' s' → Nx H' → ∃ m, m < n ∧ ∃ i H', Inv (X.blk s3 H3 scope ce fp) [] (wipe σ (own.map (·.2))) H' s' ∧ tn i s'.heap ∧ (∀ b ∈ fp, H' b = none) ∧ W i m H' := fun {s' H'} I' nx => by
          obtain ⟨m', hm, w'⟩ := hNx H' nx
          have pin' : ∀ b ∈ fp, ∀ o, s7.heap.get? b = some o → s'.heap.get? b = some o ∧ H' b = none := fun b hb o e => (fun z => ⟨z.1, z.2.1⟩) (I'.pin (b, o) (List.mem_append_right _ (List.mem_append_right _ (mem_pinsAt hb e))))
          refine ⟨m', hm, i + 1, H', (I'.unpinned (pins := [])).weak (by rw [← hw8, wipe_length]) (fun j v e => ?_), T.keep _ _ _ st7 fun b hb o e => (pin' b hb o e).1, fun b hb => ?_, w'⟩
          · rw [← hw8] at e
            exact (wipe_some e).1
          · obtain ⟨o, e, _⟩ := T.obj _ _ st7 b hb
            exact (pin' b hb o e).2
        cases b with
        | false => exact next I9 (by rwa [if_neg Bool.false_ne_true] at q9)
        | true =>
          rw [if_pos rfl] at q9
          refine thnF (pk.run _ s9 σ8 H9 _ I9 q9) fun kv s10 ⟨yk, H10, I10, r10, q10⟩ => ?_
          refine thnF (pe.run _ s10 σ8 H10 _ I10 q10) fun vv s11 ⟨yv, H11, I11, r11, H12, g, nx⟩ => ?_
          exact put_in (X := X.blk s3 H3 scope ce fp) hu I11 g r10 r11 fun s12 I12 => next I12 nx
    exact codeAny_compStart_dict turns (T.self X.A 0 _ _ _ st4 turns)
  rw [hs3] at core
  exact core
end Bx
namespace Clo
open PySem PySem.Spec PyProof.Rows L2 LamX NdefX
/-- f(..) for a closure that a variable holds, told without the context -/
def tCallQ (P : Program) (w : World) (K : PySem.W.Frag) (mg : Str → Option Value) (base : Heap) (j : Nat) (i : Nat) (t : TA) : TE := fun σ H Q => ∃ (f : Addr) (F : NF) (ps fr : List Str) (ws : List (Option V)) (sp : List (Option V) → Sp) (k : Nat), σ[i]? = some (some (.ref f)) ∧ H f = some (FnO f F) ∧ k ≤ j ∧ NOk P w K mg base CX0 k f F ps fr sp ∧
  t σ H fun vs H1 => H1 f = some (FnO f F) ∧ H1 F.c = some (CodeO F.c F.qual) ∧ Cel F fr ws H1 ∧ CloC sp ws vs F H1 Q
theorem pe_callQ {X : Cx} {P : Program} {w : World} {K : PySem.W.Frag} {mg : Str → Option Value} {base : Heap} {i j : Nat} {x : Str} {t : TA} {e : Expr} {es : List Expr} {p pos : Pos} (hP : X.prog = P) (hw : X.w = w) (hK : X.K = K) (hm : X.mg = mg) (hb : X.base = base) (hr : Room j X.A) (hN : X.N[i]? = some x) (hv : Vis X.env.scope x) (ha : PA X (e :: es) t)
    (hd : (x == ("__debug__" : Str)) = false := by decide) (hcd : (x == ("__classdict__" : Str)) = false := by decide)
    (he : starEach (e :: es) X.env = (false, eval e X.env) :: starEach es X.env := by rfl) (hpl : (backTo pos (starEach es X.env)).any (·.1) = false := by rfl) :
    PE X (.Call (.Name x p) (e :: es) [] pos) (tCallQ P w K mg base j i t) := by
  subst hP hw hK hm hb
  exact pe_callP hr hN hv ha hd hcd he hpl
end Clo
namespace Gk
/-! expressions, their words, and their places -/
inductive Ex where
  | none
  | empty
  | let_ (a : Int)
  | star (e : Ex)
  | join (e f : Ex)
  | alt (e f : Ex)
inductive Lg : Ex → List Int → Prop
  | empty : Lg .empty []
  | let_ (a : Int) : Lg (.let_ a) [a]
  | star0 (e : Ex) : Lg (.star e) []
  | starS {e : Ex} {u v : List Int} : Lg e u → Lg (.star e) v → Lg (.star e) (u ++ v)
  | join {e f : Ex} {u v : List Int} : Lg e u → Lg f v → Lg (.join e f) (u ++ v)
  | altL {e f : Ex} {u : List Int} : Lg e u → Lg (.alt e f) u
  | altR {e f : Ex} {u : List Int} : Lg f u → Lg (.alt e f) u
def nul : Ex → Bool
  | .none => false
  | .empty => true
  | .let_ _ => false
  | .star _ => true
  | .join e f => nul e && nul f
  | .alt e f => nul e || nul f
theorem nul_of {e : Ex} {w : List Int} (h : Lg e w) : w = [] → nul e = true := by
  induction h with
  | empty => intro _; rfl
  | let_ a => intro h; cases h
  | star0 e => intro _; rfl
  | starS _ _ _ _ => intro _; rfl
  | join h1 h2 i1 i2 =>
    intro h
    have := List.append_eq_nil_iff.mp h
    show (nul _ && nul _) = true
    rw [i1 this.1, i2 this.2]; rfl
  | altL _ ih => intro h; show (nul _ || nul _) = true; rw [ih h]; rfl
  | altR _ ih => intro h; show (nul _ || nul _) = true; rw [ih h, Bool.or_true]
theorem of_nul : ∀ {e : Ex}, nul e = true → Lg e []
  | .none, h => by cases h
  | .empty, _ => .empty
  | .let_ _, h => by cases h
  | .star e, _ => .star0 e
  | .join e f, h => by
    have h : (nul e && nul f) = true := h
    rw [Bool.and_eq_true] at h
    exact .join (u := []) (v := []) (of_nul h.1) (of_nul h.2)
  | .alt e f, h => by
    have h : (nul e || nul f) = true := h
    rw [Bool.or_eq_true] at h
    rcases h with h | h
    · exact .altL (of_nul h)
    · exact .altR (of_nul h)
def lt : Ex → List Int
  | .none => []
  | .empty => []
  | .let_ a => [a]
  | .star e => lt e
  | .join e f => lt e ++ lt f
  | .alt e f => lt e ++ lt f
def np (e : Ex) : Nat := (lt e).length
def fs : Ex → Nat → Bool
  | .none, _ => false
  | .empty, _ => false
  | .let_ _, i => decide (i = 0)
  | .star e, i => fs e i
  | .join e f, i => fs e i || (nul e && (decide (np e ≤ i) && fs f (i - np e)))
  | .alt e f, i => fs e i || (decide (np e ≤ i) && fs f (i - np e))
def la : Ex → Nat → Bool
  | .none, _ => false
  | .empty, _ => false
  | .let_ _, i => decide (i = 0)
  | .star e, i => la e i
  | .join e f, i => (decide (np e ≤ i) && la f (i - np e)) || (nul f && la e i)
  | .alt e f, i => la e i || (decide (np e ≤ i) && la f (i - np e))
def fo : Ex → Nat → Nat → Bool
  | .none, _, _ => false
  | .empty, _, _ => false
  | .let_ _, _, _ => false
  | .star e, i, j => fo e i j || (la e i && fs e j)
  | .join e f, i, j => (fo e i j || (decide (np e ≤ i ∧ np e ≤ j) && fo f (i - np e) (j - np e))) || (la e i && (decide (np e ≤ j) && fs f (j - np e)))
  | .alt e f, i, j => fo e i j || (decide (np e ≤ i ∧ np e ≤ j) && fo f (i - np e) (j - np e))
theorem np_join (e f : Ex) : np (.join e f) = np e + np f := by unfold np; show (lt e ++ lt f).length = _; rw [List.length_append]
theorem np_alt (e f : Ex) : np (.alt e f) = np e + np f := by unfold np; show (lt e ++ lt f).length = _; rw [List.length_append]
theorem fs_lt : ∀ {e : Ex} {i : Nat}, fs e i = true → i < np e
  | .none, _, h => by cases h
  | .empty, _, h => by cases h
  | .let_ _, i, h => by have := of_decide_eq_true h; subst this; exact Nat.zero_lt_one
  | .star e, i, h => fs_lt (e := e) h
  | .join e f, i, h => by
    have h : (fs e i || (nul e && (decide (np e ≤ i) && fs f (i - np e)))) = true := h
    rw [np_join]
    rw [Bool.or_eq_true, Bool.and_eq_true, Bool.and_eq_true, decide_eq_true_iff] at h
    rcases h with h | ⟨_, h1, h2⟩
    · have := fs_lt h; omega
    · have := fs_lt h2; omega
  | .alt e f, i, h => by
    have h : (fs e i || (decide (np e ≤ i) && fs f (i - np e))) = true := h
    rw [np_alt]
    rw [Bool.or_eq_true, Bool.and_eq_true, decide_eq_true_iff] at h
    rcases h with h | ⟨h1, h2⟩
    · have := fs_lt h; omega
    · have := fs_lt h2; omega
theorem la_lt : ∀ {e : Ex} {i : Nat}, la e i = true → i < np e
  | .none, _, h => by cases h
  | .empty, _, h => by cases h
  | .let_ _, i, h => by have := of_decide_eq_true h; subst this; exact Nat.zero_lt_one
  | .star e, i, h => la_lt (e := e) h
  | .join e f, i, h => by
    have h : ((decide (np e ≤ i) && la f (i - np e)) || (nul f && la e i)) = true := h
    rw [np_join]
    rw [Bool.or_eq_true, Bool.and_eq_true, Bool.and_eq_true, decide_eq_true_iff] at h
    rcases h with ⟨h1, h2⟩ | ⟨_, h⟩
    · have := la_lt h2; omega
    · have := la_lt h; omega
  | .alt e f, i, h => by
    have h : (la e i || (decide (np e ≤ i) && la f (i - np e))) = true := h
    rw [np_alt]
    rw [Bool.or_eq_true, Bool.and_eq_true, decide_eq_true_iff] at h
    rcases h with h | ⟨h1, h2⟩
    · have := la_lt h; omega
    · have := la_lt h2; omega
theorem fo_lt : ∀ {e : Ex} {i j : Nat}, fo e i j = true → i < np e ∧ j < np e
  | .none, _, _, h => by cases h
  | .empty, _, _, h => by cases h
  | .let_ _, _, _, h => by cases h
  | .star e, i, j, h => by
    have h : (fo e i j || (la e i && fs e j)) = true := h
    rw [Bool.or_eq_true, Bool.and_eq_true] at h
    rcases h with h | ⟨h1, h2⟩
    · exact fo_lt (e := e) h
    · exact ⟨la_lt (e := e) h1, fs_lt (e := e) h2⟩
  | .join e f, i, j, h => by
    have h : ((fo e i j || (decide (np e ≤ i ∧ np e ≤ j) && fo f (i - np e) (j - np e))) || (la e i && (decide (np e ≤ j) && fs f (j - np e)))) = true := h
    rw [np_join]
    rw [Bool.or_eq_true, Bool.or_eq_true, Bool.and_eq_true, Bool.and_eq_true, Bool.and_eq_true, decide_eq_true_iff, decide_eq_true_iff] at h
    rcases h with (h | ⟨h1, h2⟩) | ⟨h1, h2, h3⟩
    · have := fo_lt h; omega
    · have := fo_lt h2; omega
    · have a := la_lt h1; have b := fs_lt h3; omega
  | .alt e f, i, j, h => by
    have h : (fo e i j || (decide (np e ≤ i ∧ np e ≤ j) && fo f (i - np e) (j - np e))) = true := h
    rw [np_alt]
    rw [Bool.or_eq_true, Bool.and_eq_true, decide_eq_true_iff] at h
    rcases h with h | ⟨h1, h2⟩
    · have := fo_lt h; omega
    · have := fo_lt h2; omega
/-- from a place that was read, reading on, to a place -/
inductive Wy (e : Ex) : Nat → List Int → Nat → Prop
  | nil (p : Nat) : Wy e p [] p
  | cons {p q r : Nat} {a : Int} {w : List Int} : fo e p q = true → (lt e)[q]? = some a → Wy e q w r → Wy e p (a :: w) r
theorem Wy.snoc {e : Ex} {p q r : Nat} {w : List Int} {a : Int} (h : Wy e p w q) (k : fo e q r = true) (l : (lt e)[r]? = some a) : Wy e p (w ++ [a]) r := by
  induction h with
  | nil p => exact .cons k l (.nil _)
  | cons x y _ ih => exact .cons x y (ih k)
theorem Wy.trans {e : Ex} {p q r : Nat} {w u : List Int} (h : Wy e p w q) (k : Wy e q u r) : Wy e p (w ++ u) r := by
  induction h with
  | nil p => exact k
  | cons x y _ ih => exact .cons x y (ih k)
/-- a word that is not empty, read from a first place to a last one -/
def Ac (e : Ex) (w : List Int) : Prop := ∃ a u p q, w = a :: u ∧ fs e p = true ∧ (lt e)[p]? = some a ∧ Wy e p u q ∧ la e q = true
theorem Ac.ne {e : Ex} {w : List Int} (h : Ac e w) : w ≠ [] := by
  obtain ⟨a, u, _, _, rfl, _⟩ := h
  exact fun z => by cases z
theorem b_or1 {a b : Bool} (h : a = true) : (a || b) = true := by rw [h]; rfl
theorem b_or2 {a b : Bool} (h : b = true) : (a || b) = true := by rw [h]; exact Bool.or_true a
theorem b_and {a b : Bool} (h : a = true) (k : b = true) : (a && b) = true := by rw [h, k]; rfl
theorem lt_star (e : Ex) : lt (.star e) = lt e := rfl
theorem wy_star {e : Ex} {p q : Nat} {w : List Int} (h : Wy e p w q) : Wy (.star e) p w q := by
  induction h with
  | nil p => exact .nil p
  | cons x y _ ih => exact .cons (b_or1 x) y ih
theorem getL {e f : Ex} {q : Nat} {a : Int} (h : (lt e)[q]? = some a) : (lt e ++ lt f)[q]? = some a := by
  rw [List.getElem?_append_left (List.getElem?_eq_some_iff.mp h).1]; exact h
theorem getR {e f : Ex} {q : Nat} {a : Int} (h : (lt f)[q]? = some a) : (lt e ++ lt f)[np e + q]? = some a := by
  unfold np
  rw [List.getElem?_append_right (Nat.le_add_right _ _), Nat.add_sub_cancel_left]; exact h
theorem wy_joinL {e f : Ex} {p q : Nat} {w : List Int} (h : Wy e p w q) : Wy (.join e f) p w q := by
  induction h with
  | nil p => exact .nil p
  | cons x y _ ih => exact .cons (b_or1 (b_or1 x)) (getL y) ih
theorem wy_joinR {e f : Ex} {p q : Nat} {w : List Int} (h : Wy f p w q) : Wy (.join e f) (np e + p) w (np e + q) := by
  induction h with
  | nil p => exact .nil _
  | cons x y _ ih => exact .cons (b_or1 (b_or2 (b_and (decide_eq_true ⟨Nat.le_add_right _ _, Nat.le_add_right _ _⟩) (by rw [Nat.add_sub_cancel_left, Nat.add_sub_cancel_left]; exact x)))) (getR y) ih
theorem wy_altL {e f : Ex} {p q : Nat} {w : List Int} (h : Wy e p w q) : Wy (.alt e f) p w q := by
  induction h with
  | nil p => exact .nil p
  | cons x y _ ih => exact .cons (b_or1 x) (getL y) ih
theorem wy_altR {e f : Ex} {p q : Nat} {w : List Int} (h : Wy f p w q) : Wy (.alt e f) (np e + p) w (np e + q) := by
  induction h with
  | nil p => exact .nil _
  | cons x y _ ih => exact .cons (b_or2 (b_and (decide_eq_true ⟨Nat.le_add_right _ _, Nat.le_add_right _ _⟩) (by rw [Nat.add_sub_cancel_left, Nat.add_sub_cancel_left]; exact x))) (getR y) ih
theorem ac_of {e : Ex} {w : List Int} (h : Lg e w) : w ≠ [] → Ac e w := by
  induction h with
  | empty => exact fun h => absurd rfl h
  | let_ a => exact fun _ => ⟨a, [], 0, 0, rfl, rfl, rfl, .nil 0, rfl⟩
  | star0 e => exact fun h => absurd rfl h
  | @starS e u v h1 h2 i1 i2 =>
    intro hne
    by_cases hu : u = []
    · subst hu
      exact i2 hne
    obtain ⟨a, u', p, q, rfl, k1, k2, k3, k4⟩ := i1 hu
    by_cases hv : v = []
    · subst hv
      rw [List.append_nil]
      exact ⟨a, u', p, q, rfl, k1, k2, wy_star k3, k4⟩
    obtain ⟨b, v', p', q', rfl, l1, l2, l3, l4⟩ := i2 hv
    exact ⟨a, u' ++ b :: v', p, q', rfl, k1, k2, (wy_star k3).trans (.cons (b_or2 (b_and k4 l1)) l2 l3), l4⟩
  | @join e f u v h1 h2 i1 i2 =>
    intro hne
    by_cases hu : u = []
    · subst hu
      obtain ⟨b, v', p', q', rfl, l1, l2, l3, l4⟩ := i2 (by simpa using hne)
      exact ⟨b, v', np e + p', np e + q', rfl, b_or2 (b_and (nul_of h1 rfl) (b_and (decide_eq_true (Nat.le_add_right _ _)) (by rw [Nat.add_sub_cancel_left]; exact l1))), getR l2, wy_joinR l3, b_or1 (b_and (decide_eq_true (Nat.le_add_right _ _)) (by rw [Nat.add_sub_cancel_left]; exact l4))⟩
    obtain ⟨a, u', p, q, rfl, k1, k2, k3, k4⟩ := i1 hu
    by_cases hv : v = []
    · subst hv
      rw [List.append_nil]
      exact ⟨a, u', p, q, rfl, b_or1 k1, getL k2, wy_joinL k3, b_or2 (b_and (nul_of h2 rfl) k4)⟩
    obtain ⟨b, v', p', q', rfl, l1, l2, l3, l4⟩ := i2 hv
    exact ⟨a, u' ++ b :: v', p, np e + q', rfl, b_or1 k1, getL k2, (wy_joinL k3).trans (.cons (b_or2 (b_and k4 (b_and (decide_eq_true (Nat.le_add_right _ _)) (by rw [Nat.add_sub_cancel_left]; exact l1)))) (getR l2) (wy_joinR l3)), b_or1 (b_and (decide_eq_true (Nat.le_add_right _ _)) (by rw [Nat.add_sub_cancel_left]; exact l4))⟩
  | @altL e f u h ih =>
    intro hne
    obtain ⟨a, u', p, q, rfl, k1, k2, k3, k4⟩ := ih hne
    exact ⟨a, u', p, q, rfl, b_or1 k1, getL k2, wy_altL k3, b_or1 k4⟩
  | @altR e f u h ih =>
    intro hne
    obtain ⟨a, u', p, q, rfl, k1, k2, k3, k4⟩ := ih hne
    exact ⟨a, u', np e + p, np e + q, rfl, b_or2 (b_and (decide_eq_true (Nat.le_add_right _ _)) (by rw [Nat.add_sub_cancel_left]; exact k1)), getR k2, wy_altR k3, b_or2 (b_and (decide_eq_true (Nat.le_add_right _ _)) (by rw [Nat.add_sub_cancel_left]; exact k4))⟩
/-- a way in a star, cut where it begins anew -/
theorem wy_cut {e : Ex} {p q : Nat} {w : List Int} (h : Wy (.star e) p w q) : la e q = true → ∃ u v p', w = u ++ v ∧ Wy e p u p' ∧ la e p' = true ∧ (v = [] ∨ Ac (.star e) v) := by
  induction h with
  | nil p => exact fun k => ⟨[], [], p, rfl, .nil p, k, .inl rfl⟩
  | @cons p q r a w x y z ih =>
    intro k
    have x : (fo e p q || (la e p && fs e q)) = true := x
    rw [Bool.or_eq_true, Bool.and_eq_true] at x
    rcases x with x | ⟨x1, x2⟩
    · obtain ⟨u, v, p', rfl, h1, h2, h3⟩ := ih k
      exact ⟨a :: u, v, p', rfl, .cons x y h1, h2, h3⟩
    · exact ⟨[], a :: w, p, rfl, .nil p, x1, .inr ⟨a, w, q, r, rfl, x2, y, z, k⟩⟩
/-- a way in a join that begins on the left -/
theorem wy_join_cut {e f : Ex} {p q : Nat} {w : List Int} (h : Wy (.join e f) p w q) : p < np e → (q < np e ∧ Wy e p w q) ∨ ∃ u v p' r b v', w = u ++ v ∧ Wy e p u p' ∧ la e p' = true ∧ v = b :: v' ∧ fs f r = true ∧ (lt f)[r]? = some b ∧ ∃ q', q = np e + q' ∧ Wy f r v' q' := by
  have right : ∀ {p q : Nat} {w : List Int}, Wy (.join e f) p w q → np e ≤ p → ∃ q', q = np e + q' ∧ Wy f (p - np e) w q' := by
    intro p q w h
    induction h with
    | nil p => exact fun hp => ⟨p - np e, by omega, .nil _⟩
    | @cons p q r a w x y z ih =>
      intro hp
      have x : ((fo e p q || (decide (np e ≤ p ∧ np e ≤ q) && fo f (p - np e) (q - np e))) || (la e p && (decide (np e ≤ q) && fs f (q - np e)))) = true := x
      rw [Bool.or_eq_true, Bool.or_eq_true, Bool.and_eq_true, Bool.and_eq_true, Bool.and_eq_true, decide_eq_true_iff, decide_eq_true_iff] at x
      rcases x with (x | ⟨x1, x2⟩) | ⟨x1, x2, x3⟩
      · have := fo_lt x; omega
      · obtain ⟨q', e1, h1⟩ := ih x1.2
        refine ⟨q', e1, .cons x2 ?_ h1⟩
        have y : (lt e ++ lt f)[q]? = some a := y
        rw [List.getElem?_append_right x1.2] at y
        exact y
      · have := la_lt x1; omega
  induction h with
  | nil p => exact fun hp => .inl ⟨hp, .nil p⟩
  | @cons p q r a w x y z ih =>
    intro hp
    have x : ((fo e p q || (decide (np e ≤ p ∧ np e ≤ q) && fo f (p - np e) (q - np e))) || (la e p && (decide (np e ≤ q) && fs f (q - np e)))) = true := x
    have y : (lt e ++ lt f)[q]? = some a := y
    rw [Bool.or_eq_true, Bool.or_eq_true, Bool.and_eq_true, Bool.and_eq_true, Bool.and_eq_true, decide_eq_true_iff, decide_eq_true_iff] at x
    rcases x with (x | ⟨x1, x2⟩) | ⟨x1, x2, x3⟩
    · have hq := (fo_lt x).2
      have y' : (lt e)[q]? = some a := by rw [List.getElem?_append_left hq] at y; exact y
      rcases ih hq with ⟨h1, h2⟩ | ⟨u, v, p', r', b, v', h1, h2, h3, h4⟩
      · exact .inl ⟨h1, .cons x y' h2⟩
      · exact .inr ⟨a :: u, v, p', r', b, v', by rw [h1]; rfl, .cons x y' h2, h3, h4⟩
    · omega
    · obtain ⟨q', e1, h1⟩ := right z x2
      rw [List.getElem?_append_right x2] at y
      exact .inr ⟨[], a :: w, p, q - np e, a, w, rfl, .nil p, x1, rfl, x3, y, q', e1, h1⟩
theorem wy_join_right {e f : Ex} {p q : Nat} {w : List Int} (h : Wy (.join e f) p w q) : np e ≤ p → ∃ q', q = np e + q' ∧ Wy f (p - np e) w q' := by
  induction h with
  | nil p => exact fun hp => ⟨p - np e, by omega, .nil _⟩
  | @cons p q r a w x y z ih =>
    intro hp
    have x : ((fo e p q || (decide (np e ≤ p ∧ np e ≤ q) && fo f (p - np e) (q - np e))) || (la e p && (decide (np e ≤ q) && fs f (q - np e)))) = true := x
    rw [Bool.or_eq_true, Bool.or_eq_true, Bool.and_eq_true, Bool.and_eq_true, Bool.and_eq_true, decide_eq_true_iff, decide_eq_true_iff] at x
    rcases x with (x | ⟨x1, x2⟩) | ⟨x1, x2, x3⟩
    · have := fo_lt x; omega
    · obtain ⟨q', e1, h1⟩ := ih x1.2
      refine ⟨q', e1, .cons x2 ?_ h1⟩
      have y : (lt e ++ lt f)[q]? = some a := y
      rw [List.getElem?_append_right x1.2] at y
      exact y
    · have := la_lt x1; omega
theorem wy_alt {e f : Ex} {p q : Nat} {w : List Int} (h : Wy (.alt e f) p w q) : (p < np e → q < np e ∧ Wy e p w q) ∧ (np e ≤ p → ∃ q', q = np e + q' ∧ Wy f (p - np e) w q') := by
  induction h with
  | nil p => exact ⟨fun h => ⟨h, .nil p⟩, fun h => ⟨p - np e, by omega, .nil _⟩⟩
  | @cons p q r a w x y z ih =>
    have x : (fo e p q || (decide (np e ≤ p ∧ np e ≤ q) && fo f (p - np e) (q - np e))) = true := x
    have y : (lt e ++ lt f)[q]? = some a := y
    rw [Bool.or_eq_true, Bool.and_eq_true, decide_eq_true_iff] at x
    constructor
    · intro hp
      rcases x with x | ⟨x1, _⟩
      · have hq := (fo_lt x).2
        obtain ⟨h1, h2⟩ := ih.1 hq
        refine ⟨h1, .cons x ?_ h2⟩
        rw [List.getElem?_append_left hq] at y
        exact y
      · omega
    · intro hp
      rcases x with x | ⟨x1, x2⟩
      · have := (fo_lt x).1; omega
      · obtain ⟨q', e1, h1⟩ := ih.2 x1.2
        refine ⟨q', e1, .cons x2 ?_ h1⟩
        rw [List.getElem?_append_right x1.2] at y
        exact y
theorem of_ac : ∀ {e : Ex} {w : List Int}, Ac e w → Lg e w
  | .none, w, ⟨_, _, _, _, _, h, _⟩ => by cases h
  | .empty, w, ⟨_, _, _, _, _, h, _⟩ => by cases h
  | .let_ b, w, ⟨a, u, p, q, e1, h1, h2, h3, h4⟩ => by
    have h1 := of_decide_eq_true h1
    subst h1
    have : b = a := Option.some.inj h2
    subst this
    cases h3 with
    | nil _ => rw [e1]; exact .let_ b
    | cons x _ _ => cases x
  | .star e, w, h => by
    have key : ∀ n, ∀ w : List Int, w.length ≤ n → Ac (.star e) w → Lg (.star e) w := by
      intro n
      induction n with
      | zero =>
        rintro w hw ⟨a, u, p, q, rfl, _⟩
        simp at hw
      | succ n ih =>
        rintro w hw ⟨a, u, p, q, rfl, h1, h2, h3, h4⟩
        obtain ⟨u1, v, p', rfl, k1, k2, k3⟩ := wy_cut h3 h4
        have l1 : Lg e (a :: u1) := of_ac ⟨a, u1, p, p', rfl, h1, h2, k1, k2⟩
        have : Lg (.star e) v := by
          rcases k3 with rfl | k3
          · exact .star0 e
          · refine ih v ?_ k3
            simp only [List.length_cons, List.length_append] at hw
            omega
        exact .starS (u := a :: u1) l1 this
    exact key _ w (Nat.le_refl _) h
  | .join e f, w, ⟨a, u, p, q, e1, h1, h2, h3, h4⟩ => by
    have h1 : (fs e p || (nul e && (decide (np e ≤ p) && fs f (p - np e)))) = true := h1
    have h2 : (lt e ++ lt f)[p]? = some a := h2
    have h4 : ((decide (np e ≤ q) && la f (q - np e)) || (nul f && la e q)) = true := h4
    rw [Bool.or_eq_true, Bool.and_eq_true, Bool.and_eq_true, decide_eq_true_iff] at h1 h4
    subst e1
    rcases h1 with h1 | ⟨n1, n2, n3⟩
    · have hp := fs_lt h1
      rw [List.getElem?_append_left hp] at h2
      rcases wy_join_cut h3 hp with ⟨hq, k⟩ | ⟨u1, v, p', r, b, v', rfl, k1, k2, rfl, k4, k5, q', rfl, k6⟩
      · rcases h4 with ⟨h4, _⟩ | ⟨h4, h5⟩
        · omega
        · have := Lg.join (of_ac (e := e) ⟨a, u, p, q, rfl, h1, h2, k, h5⟩) (of_nul h4)
          rwa [List.append_nil] at this
      · rcases h4 with ⟨_, h4⟩ | ⟨_, h4⟩
        · rw [Nat.add_sub_cancel_left] at h4
          exact Lg.join (u := a :: u1) (of_ac ⟨a, u1, p, p', rfl, h1, h2, k1, k2⟩) (of_ac ⟨b, v', r, q', rfl, k4, k5, k6, h4⟩)
        · have := la_lt h4; omega
    · obtain ⟨q', rfl, k⟩ := wy_join_right h3 n2
      rw [List.getElem?_append_right n2] at h2
      rcases h4 with ⟨_, h4⟩ | ⟨_, h4⟩
      · rw [Nat.add_sub_cancel_left] at h4
        exact Lg.join (u := []) (of_nul n1) (of_ac ⟨a, u, p - np e, q', rfl, n3, h2, k, h4⟩)
      · have := la_lt h4; omega
  | .alt e f, w, ⟨a, u, p, q, e1, h1, h2, h3, h4⟩ => by
    have h1 : (fs e p || (decide (np e ≤ p) && fs f (p - np e))) = true := h1
    have h2 : (lt e ++ lt f)[p]? = some a := h2
    have h4 : (la e q || (decide (np e ≤ q) && la f (q - np e))) = true := h4
    rw [Bool.or_eq_true, Bool.and_eq_true, decide_eq_true_iff] at h1 h4
    subst e1
    rcases h1 with h1 | ⟨n2, n3⟩
    · have hp := fs_lt h1
      rw [List.getElem?_append_left hp] at h2
      obtain ⟨hq, k⟩ := (wy_alt h3).1 hp
      rcases h4 with h4 | ⟨h4, _⟩
      · exact .altL (of_ac ⟨a, u, p, q, rfl, h1, h2, k, h4⟩)
      · omega
    · obtain ⟨q', rfl, k⟩ := (wy_alt h3).2 n2
      rw [List.getElem?_append_right n2] at h2
      rcases h4 with h4 | ⟨_, h4⟩
      · have := la_lt h4; omega
      · rw [Nat.add_sub_cancel_left] at h4
        exact .altR (of_ac ⟨a, u, p - np e, q', rfl, n3, h2, k, h4⟩)
theorem lg_iff {e : Ex} {w : List Int} : Lg e w ↔ (w = [] ∧ nul e = true) ∨ Ac e w := by
  constructor
  · intro h
    by_cases hw : w = []
    · exact .inl ⟨hw, nul_of h hw⟩
    · exact .inr (ac_of h hw)
  · rintro (⟨rfl, h⟩ | h)
    · exact of_nul h
    · exact of_ac h
end Gk
namespace Mk
/-! masks: the lowest bit -/
theorem odd_split : ∀ (n m : Nat), m ≤ n → 0 < m → ∃ k q, m = 2 ^ k * (2 * q + 1)
  | 0, m, h, h0 => by omega
  | n + 1, m, h, h0 => by
    rcases Nat.mod_two_eq_zero_or_one m with e | e
    · obtain ⟨k, q, h1⟩ := odd_split n (m / 2) (by omega) (by omega)
      refine ⟨k + 1, q, ?_⟩
      rw [Nat.pow_succ, Nat.mul_comm (2 ^ k) 2, Nat.mul_assoc, ← h1]
      omega
    · exact ⟨0, m / 2, by rw [Nat.pow_zero, Nat.one_mul]; omega⟩
theorem tb_mul {k a : Nat} (j : Nat) : (2 ^ k * a).testBit j = (decide (k ≤ j) && a.testBit (j - k)) := by
  rw [Nat.testBit_two_pow_mul]
theorem tb_odd (q j : Nat) : (2 * q + 1).testBit j = (decide (j = 0) || (2 * q).testBit j) := by
  cases j with
  | zero => simp
  | succ j => simp [Nat.testBit_succ]; rw [show (2 * q + 1) / 2 = q by omega]
theorem tb_even0 (q : Nat) : (2 * q).testBit 0 = false := by simp
theorem low {m : Nat} (h : 0 < m) : ∃ k, m.testBit k = true ∧ m - (m &&& (m - 1)) = 2 ^ k ∧ m ^^^ 2 ^ k = m &&& (m - 1) ∧ (m &&& (m - 1)) < m ∧ (∀ i, (m &&& (m - 1)).testBit i = (m.testBit i && !decide (i = k))) ∧ ∀ i, m.testBit i = true → k ≤ i := by
  obtain ⟨k, q, rfl⟩ := odd_split m m (Nat.le_refl _) h
  have hp : 0 < 2 ^ k := Nat.two_pow_pos k
  have e1 : 2 ^ k * (2 * q + 1) - 1 = 2 ^ k * (2 * q) + (2 ^ k - 1) := by rw [Nat.mul_add, Nat.mul_one]; omega
  have band : (2 ^ k * (2 * q + 1)) &&& (2 ^ k * (2 * q + 1) - 1) = 2 ^ k * (2 * q) := by
    refine Nat.eq_of_testBit_eq fun j => ?_
    rw [Nat.testBit_and, e1, Nat.testBit_two_pow_mul_add _ (by omega), tb_mul, tb_mul, tb_odd]
    by_cases hj : j < k
    · rw [if_pos hj, decide_eq_false (by omega)]
      rfl
    · rw [if_neg hj, decide_eq_true (by omega)]
      by_cases h0 : j - k = 0
      · rw [h0, tb_even0]; rfl
      · rw [decide_eq_false h0]
        cases (2 * q).testBit (j - k) <;> rfl
  have tbm : ∀ i, (2 ^ k * (2 * q + 1)).testBit i = (decide (i = k) || (2 ^ k * (2 * q)).testBit i) := fun i => by
    rw [tb_mul, tb_mul, tb_odd]
    by_cases hi : k ≤ i
    · rw [decide_eq_true hi]
      by_cases e : i = k
      · rw [decide_eq_true e, decide_eq_true (by omega : i - k = 0)]; rfl
      · rw [decide_eq_false e, decide_eq_false (by omega : ¬ i - k = 0)]; rfl
    · rw [decide_eq_false hi, decide_eq_false (by omega : ¬ i = k)]; rfl
  have tb0 : (2 ^ k * (2 * q)).testBit k = false := by rw [tb_mul, Nat.sub_self, tb_even0, Bool.and_false]
  refine ⟨k, ?_, ?_, ?_, ?_, fun i => ?_, fun i hi => ?_⟩
  · rw [tbm, decide_eq_true rfl]; rfl
  · rw [band, Nat.mul_add, Nat.mul_one]; omega
  · rw [band]
    refine Nat.eq_of_testBit_eq fun j => ?_
    rw [Nat.testBit_xor, tbm, Nat.testBit_two_pow]
    by_cases e : j = k
    · subst e
      rw [tb0, decide_eq_true rfl]; rfl
    · rw [decide_eq_false e, decide_eq_false (fun z => e z.symm)]
      cases (2 ^ k * (2 * q)).testBit j <;> rfl
  · rw [band, Nat.mul_add, Nat.mul_one]; omega
  · rw [band, tbm]
    by_cases e : i = k
    · subst e
      rw [tb0, decide_eq_true rfl]; rfl
    · rw [decide_eq_false e]
      cases (2 ^ k * (2 * q)).testBit i <;> rfl
  · rw [tb_mul, Bool.and_eq_true, decide_eq_true_iff] at hi
    exact hi.1
theorem zero_of {m : Nat} (h : ∀ i, m.testBit i = false) : m = 0 := Nat.eq_of_testBit_eq fun i => by rw [h i, Nat.zero_testBit]
theorem lt_of_bits {m n : Nat} (h : ∀ i, m.testBit i = true → i < n) : m < 2 ^ n := by
  refine Nat.lt_pow_two_of_testBit m fun i hi => ?_
  cases e : m.testBit i with
  | false => rfl
  | true => have := h i e; omega
end Mk
namespace Gk
/-! the relation between places of a word that goes round -/
/-- the place behind a place -/
def af (n back k : Nat) : Nat := if k + 1 = n then back else k + 1
/-- the place m turns later -/
def pl (n back : Nat) : Nat → Nat → Nat
  | j, 0 => j
  | j, m + 1 => pl n back (af n back j) m
/-- the m letters from a place on -/
def wd (ls : List Int) (back : Nat) : Nat → Nat → List Int
  | _, 0 => []
  | j, m + 1 => ls.getD j 0 :: wd ls back (af ls.length back j) m
theorem wd_len (ls : List Int) (back : Nat) : ∀ (m j : Nat), (wd ls back j m).length = m
  | 0, _ => rfl
  | m + 1, j => by show (wd _ _ _ m).length + 1 = _; rw [wd_len ls back m]
theorem pl_add (n back : Nat) : ∀ (m k j : Nat), pl n back j (m + k) = pl n back (pl n back j m) k
  | 0, k, j => by rw [Nat.zero_add]; rfl
  | m + 1, k, j => by rw [Nat.succ_add]; exact pl_add n back m k _
theorem wd_add (ls : List Int) (back : Nat) : ∀ (m k j : Nat), wd ls back j (m + k) = wd ls back j m ++ wd ls back (pl ls.length back j m) k
  | 0, k, j => by rw [Nat.zero_add]; rfl
  | m + 1, k, j => by
    rw [Nat.succ_add]
    show ls.getD j 0 :: wd ls back _ (m + k) = ls.getD j 0 :: (_ ++ _)
    rw [wd_add ls back m k]
    rfl
theorem pl_lt {n back : Nat} (hb : back < n) : ∀ (m j : Nat), j < n → pl n back j m < n
  | 0, j, h => h
  | m + 1, j, h => pl_lt hb m _ (by unfold af; split <;> omega)
/-- some word of e, not empty, leads from place j to place k -/
def St (ls : List Int) (back : Nat) (e : Ex) (j k : Nat) : Prop := ∃ m, 1 ≤ m ∧ pl ls.length back j m = k ∧ Lg e (wd ls back j m)
section
variable {ls : List Int} {back : Nat}
theorem st_none (j k : Nat) : ¬ St ls back .none j k := fun ⟨m, h1, _, h⟩ => by cases h
theorem st_empty (j k : Nat) : ¬ St ls back .empty j k := fun ⟨m, h1, _, h⟩ => by
  generalize e : wd ls back j m = w at h
  cases h with
  | empty => have := congrArg List.length e; rw [wd_len] at this; simp at this; omega
theorem st_let {a : Int} {j k : Nat} : St ls back (.let_ a) j k ↔ k = af ls.length back j ∧ ls.getD j 0 = a := by
  constructor
  · rintro ⟨m, h1, h2, h⟩
    generalize e : wd ls back j m = w at h
    cases h with
    | let_ _ =>
      have := congrArg List.length e
      rw [wd_len] at this
      have : m = 1 := this
      subst this
      exact ⟨h2.symm, (List.cons.inj e).1⟩
  · rintro ⟨rfl, rfl⟩
    exact ⟨1, Nat.le_refl 1, rfl, .let_ _⟩
theorem st_alt {e f : Ex} {j k : Nat} : St ls back (.alt e f) j k ↔ St ls back e j k ∨ St ls back f j k := by
  constructor
  · rintro ⟨m, h1, h2, h⟩
    cases h with
    | altL h => exact .inl ⟨m, h1, h2, h⟩
    | altR h => exact .inr ⟨m, h1, h2, h⟩
  · rintro (⟨m, h1, h2, h⟩ | ⟨m, h1, h2, h⟩)
    · exact ⟨m, h1, h2, .altL h⟩
    · exact ⟨m, h1, h2, .altR h⟩
theorem wd_split {j m : Nat} {u v : List Int} (h : wd ls back j m = u ++ v) : u = wd ls back j u.length ∧ v = wd ls back (pl ls.length back j u.length) v.length ∧ m = u.length + v.length := by
  have hl := congrArg List.length h
  rw [wd_len, List.length_append] at hl
  rw [hl, wd_add] at h
  have := List.append_inj h (wd_len _ _ _ _)
  exact ⟨this.1.symm, this.2.symm, hl⟩
theorem st_join {e f : Ex} {j k : Nat} : St ls back (.join e f) j k ↔ (∃ i, St ls back e j i ∧ St ls back f i k) ∨ (nul e = true ∧ St ls back f j k) ∨ (nul f = true ∧ St ls back e j k) := by
  constructor
  · rintro ⟨m, h1, h2, h⟩
    generalize e1 : wd ls back j m = w at h
    cases h with
    | @join _ _ u v hu hv =>
      obtain ⟨eu, ev, em⟩ := wd_split e1
      by_cases cu : u = []
      · subst cu
        refine .inr (.inl ⟨nul_of hu rfl, v.length, ?_, ?_, ?_⟩)
        · simp at em; omega
        · have : m = v.length := by simpa using em
          rw [← this]; exact h2
        · rw [ev] at hv; exact hv
      by_cases cv : v = []
      · subst cv
        have : m = u.length := by simpa using em
        refine .inr (.inr ⟨nul_of hv rfl, u.length, by omega, by rw [← this]; exact h2, by rw [← eu]; exact hu⟩)
      · refine .inl ⟨pl ls.length back j u.length, ⟨u.length, List.length_pos_iff.mpr cu, rfl, by rw [← eu]; exact hu⟩, v.length, List.length_pos_iff.mpr cv, ?_, by rw [← ev]; exact hv⟩
        rw [← pl_add, ← em]; exact h2
  · rintro (⟨i, ⟨m1, h1, h2, h3⟩, ⟨m2, k1, k2, k3⟩⟩ | ⟨n, m, h1, h2, h3⟩ | ⟨n, m, h1, h2, h3⟩)
    · subst h2
      exact ⟨m1 + m2, by omega, by rw [pl_add]; exact k2, by rw [wd_add]; exact .join h3 k3⟩
    · exact ⟨m, h1, h2, .join (u := []) (of_nul n) h3⟩
    · refine ⟨m, h1, h2, ?_⟩
      have := Lg.join h3 (of_nul n)
      rwa [List.append_nil] at this
/-- one step or more -/
inductive Tc (R : Nat → Nat → Prop) : Nat → Nat → Prop
  | one {j k : Nat} : R j k → Tc R j k
  | more {j i k : Nat} : R j i → Tc R i k → Tc R j k
theorem Tc.trans {R : Nat → Nat → Prop} {j i k : Nat} (h : Tc R j i) (g : Tc R i k) : Tc R j k := by
  induction h with
  | one h => exact .more h g
  | more h _ ih => exact .more h (ih g)
theorem st_star {e : Ex} {j k : Nat} : St ls back (.star e) j k ↔ Tc (St ls back e) j k := by
  constructor
  · rintro ⟨m, h1, h2, h⟩
    have key : ∀ {w : List Int}, Lg (.star e) w → ∀ j, w = wd ls back j w.length → w ≠ [] → Tc (St ls back e) j (pl ls.length back j w.length) := by
      intro w h
      generalize e1 : Ex.star e = x at h
      induction h with
      | star0 _ => exact fun j _ h => absurd rfl h
      | @starS e' u v hu hv i1 i2 =>
        cases e1
        intro j hw hne
        obtain ⟨eu, ev, em⟩ := wd_split (m := (u ++ v).length) hw.symm
        by_cases cu : u = []
        · subst cu
          exact i2 rfl j hw hne
        have s1 : St ls back e j (pl ls.length back j u.length) := ⟨u.length, List.length_pos_iff.mpr cu, rfl, by rw [← eu]; exact hu⟩
        by_cases cv : v = []
        · subst cv
          rw [List.append_nil]
          exact .one s1
        · rw [List.length_append, pl_add]
          exact .more s1 (i2 rfl _ ev cv)
      | empty => cases e1
      | let_ _ => cases e1
      | join _ _ _ _ => cases e1
      | altL _ _ => cases e1
      | altR _ _ => cases e1
    have := key h j (by rw [wd_len]) (by intro z; have := congrArg List.length z; rw [wd_len] at this; simp at this; omega)
    rw [wd_len, h2] at this
    exact this
  · intro h
    induction h with
    | one h =>
      obtain ⟨m, h1, h2, h3⟩ := h
      refine ⟨m, h1, h2, ?_⟩
      have := Lg.starS h3 (.star0 e)
      rwa [List.append_nil] at this
    | more h _ ih =>
      obtain ⟨m1, h1, h2, h3⟩ := h
      obtain ⟨m2, k1, k2, k3⟩ := ih
      subst h2
      exact ⟨m1 + m2, by omega, by rw [pl_add]; exact k2, by rw [wd_add]; exact .starS h3 k3⟩
end
/-- up to t + 1 steps -/
def Up (R : Nat → Nat → Prop) : Nat → Nat → Nat → Prop
  | 0, j, k => R j k
  | t + 1, j, k => Up R t j k ∨ ∃ i, Up R t j i ∧ R i k
theorem up_tc {R : Nat → Nat → Prop} : ∀ {t j k : Nat}, Up R t j k → Tc R j k
  | 0, _, _, h => .one h
  | t + 1, _, _, h => by
    rcases h with h | ⟨i, h1, h2⟩
    · exact up_tc h
    · exact (up_tc h1).trans (.one h2)
theorem up_mono {R : Nat → Nat → Prop} {t j k : Nat} (h : Up R t j k) : ∀ d, Up R (t + d) j k
  | 0 => h
  | d + 1 => .inl (up_mono h d)
/-- a walk with d steps -/
def Wa (R : Nat → Nat → Prop) (f : Nat → Nat) (d : Nat) : Prop := ∀ i, i < d → R (f i) (f (i + 1))
theorem up_wa {R : Nat → Nat → Prop} {f : Nat → Nat} : ∀ d, Wa R f (d + 1) → Up R d (f 0) (f (d + 1))
  | 0, h => h 0 (Nat.lt_succ_self _)
  | d + 1, h => .inr ⟨f (d + 1), up_wa d (fun i hi => h i (by omega)), h (d + 1) (by omega)⟩
theorem tc_wa {R : Nat → Nat → Prop} {j k : Nat} (h : Tc R j k) : ∃ f d, Wa R f (d + 1) ∧ f 0 = j ∧ f (d + 1) = k := by
  induction h with
  | @one j k h => exact ⟨fun i => if i = 0 then j else k, 0, fun i hi => by have : i = 0 := by omega
                                                                            subst this; exact h, rfl, rfl⟩
  | @more j i k h _ ih =>
    obtain ⟨f, d, h1, h2, h3⟩ := ih
    refine ⟨fun i => match i with | 0 => j | i + 1 => f i, d + 1, fun i hi => ?_, rfl, h3⟩
    cases i with
    | zero => show R j (f 0); rw [h2]; exact h
    | succ i => exact h1 i (by omega)
end Gk
namespace Gk
theorem wa_short {R : Nat → Nat → Prop} {n : Nat} (hR : ∀ a b, R a b → a < n ∧ b < n) : ∀ (N d : Nat) (f : Nat → Nat), d ≤ N → Wa R f (d + 1) → ∃ g d', d' ≤ n ∧ Wa R g (d' + 1) ∧ g 0 = f 0 ∧ g (d' + 1) = f (d + 1)
  | 0, d, f, h, w => ⟨f, d, by omega, w, rfl, rfl⟩
  | N + 1, d, f, h, w => by
    by_cases hd : d ≤ n
    · exact ⟨f, d, hd, w, rfl, rfl⟩
    obtain ⟨i, j, hij, hj, e⟩ := Lv.pigeon (n := n) (f := f) fun k hk => (hR _ _ (w k (by omega))).1
    let g : Nat → Nat := fun x => if x ≤ i then f x else f (x + (j - i))
    have g1 : ∀ x, x ≤ i → g x = f x := fun x hx => if_pos hx
    have g2 : ∀ x, ¬ x ≤ i → g x = f (x + (j - i)) := fun x hx => if_neg hx
    have wg : Wa R g ((d - (j - i)) + 1) := fun x hx => by
      by_cases c : x + 1 ≤ i
      · rw [g1 x (by omega), g1 (x + 1) c]; exact w x (by omega)
      by_cases c2 : x ≤ i
      · have : x = i := by omega
        subst this
        rw [g1 x c2, g2 (x + 1) c, e, show x + 1 + (j - x) = j + 1 by omega]
        exact w j (by omega)
      · rw [g2 x c2, g2 (x + 1) c, show x + 1 + (j - i) = x + (j - i) + 1 by omega]
        exact w _ (by omega)
    obtain ⟨g', d', h1, h2, h3, h4⟩ := wa_short hR N (d - (j - i)) g (by omega) wg
    refine ⟨g', d', h1, h2, by rw [h3, g1 0 (Nat.zero_le _)], ?_⟩
    rw [h4, g2 _ (by omega)]
    congr 1
    omega
theorem tc_up {R : Nat → Nat → Prop} {n : Nat} (hR : ∀ a b, R a b → a < n ∧ b < n) {j k : Nat} : Tc R j k ↔ Up R n j k := by
  constructor
  · intro h
    obtain ⟨f, d, h1, h2, h3⟩ := tc_wa h
    obtain ⟨g, d', k1, k2, k3, k4⟩ := wa_short hR d d f (Nat.le_refl _) h1
    have := up_mono (up_wa d' k2) (n - d')
    rw [k3, k4, h2, h3, show d' + (n - d') = n by omega] at this
    exact this
  · exact up_tc
end Gk
namespace Bx
open PySem PySem.Spec PyProof.Rows L2
theorem bitand_neg {m : Nat} (h : 0 < m) : Builtin.bitAnd (m : Int) (-(m : Int)) = ((m - (m &&& (m - 1)) : Nat) : Int) := by
  unfold Builtin.bitAnd Builtin.bitNot
  rw [decide_eq_true (show (0 : Int) ≤ (m : Int) by omega), decide_eq_false (show ¬ (0 : Int) ≤ -(m : Int) by omega)]
  show (m : Int) - (((m : Int).toNat &&& (- -(m : Int) - 1).toNat : Nat) : Int) = _
  have e : (- -(m : Int) - 1).toNat = m - 1 := by omega
  rw [e, Int.toNat_natCast]
  have : m &&& (m - 1) ≤ m := Nat.and_le_left
  omega
theorem bits_pow (k : Nat) : Builtin.Int.intBits ((2 ^ k : Nat) : Int) = k + 1 := by
  unfold Builtin.Int.intBits
  have h : 0 < 2 ^ k := Nat.two_pow_pos k
  rw [if_neg (by rw [beq_iff_eq]; omega)]
  show Nat.log2 (Int.natAbs ((2 ^ k : Nat) : Int)) + 1 = k + 1
  rw [Int.natAbs_natCast, Nat.log2_two_pow]
theorem bor_nat (a b : Nat) : Builtin.bitOr (a : Int) (b : Int) = ((a ||| b : Nat) : Int) := by
  have := Bits.bitOr_pp (x := (a : Int)) (y := (b : Int)) (by omega) (by omega)
  rwa [Int.toNat_natCast, Int.toNat_natCast] at this
theorem bxor_nat (a b : Nat) : Builtin.bitXor (a : Int) (b : Int) = ((a ^^^ b : Nat) : Int) := by
  have := Bits.bitXor_pp (x := (a : Int)) (y := (b : Int)) (by omega) (by omega)
  rwa [Int.toNat_natCast, Int.toNat_natCast] at this
theorem band_nat (a b : Nat) : Builtin.bitAnd (a : Int) (b : Int) = ((a &&& b : Nat) : Int) := by
  have := PyProof.Rows.bitAnd_pp (x := (a : Int)) (y := (b : Int)) (by omega) (by omega)
  rwa [Int.toNat_natCast, Int.toNat_natCast] at this
/-- the class of the places of an expression -/
structure PosC (K : PySem.W.Frag) (C : Addr) : Prop where
  cl : Cls K C
  nl : NoAttr K C "letters"
  nf : NoAttr K C "follows"
  n1 : NoAttr K C "first"
  n2 : NoAttr K C "last"
  n3 : NoAttr K C "nullable"
end Bx
namespace Bx
open PySem PySem.Spec PyProof.Rows L2
/-- the class of the pairs -/
structure EndC (K : PySem.W.Frag) (C : Addr) : Prop where
  cl : Cls K C
  nF : NoAttr K C "firsts"
  nS : NoAttr K C "seconds"
/-- a module's tuple of whole numbers -/
structure GloI (K : PySem.W.Frag) (mg : Str → Option Value) (x : Str) (ns : List Int) (a : Addr) : Prop where
  g : mg x = some (.ref a)
  q : ∀ H, SqT K H a (ns.map V.int)
end Bx
/-! dicts whose keys are tuples nested in tuples -/
namespace Dn2
open PySem PySem.Spec PyProof.Rows L2
theorem units65 {k : Nat} {A : Around} (h : Room k A) : A.units + 65 < cLine := by
  have := h.un
  omega
/-- a tuple: tracked, or an object of the module -/
def TupK (K : PySem.W.Frag) (H : Hp) (a : Addr) (vs : List V) : Prop := H a = some (.tup vs) ∨ ∃ (o : Obj) (its : Array Value) (n : Nat), K.lookup a = some o ∧ o.cls = .type "tuple" ∧ o.data = .seq its n ∧ its.size ≤ sizeLine ∧ Vals vs its.toList
theorem TupK.sq {K : PySem.W.Frag} {H : Hp} {a : Addr} {vs : List V} (h : TupK K H a vs) : SqT K H a vs := h.elim .of (fun h => .inr h)
theorem TupK.same {K : PySem.W.Frag} {H H' : Hp} {a : Addr} {vs : List V} (s : ∀ b xs, H b = some (.tup xs) → H' b = some (.tup xs)) (h : TupK K H a vs) : TupK K H' a vs := h.elim (fun h => .inl (s _ _ h)) (fun h => .inr h)
theorem TupK.is {P : Program} {w : World} {K : PySem.W.Frag} {H : Hp} {h : Heap} {a : Addr} {vs : List V} (kin : K.In h) (ok : HOk P w H h) (x : TupK K H a vs) : ∃ (its : List Value) (o : Obj) (n : Nat), Vals vs its ∧ h.get? a = some o ∧ o.cls = .type "tuple" ∧ o.data = .seq its.toArray n := by
  rcases x with x | ⟨o, its, n, h1, h2, h3, _, h5⟩
  · obtain ⟨_, its, rv, o, h1, h2, n, h3⟩ := (show ObjOk P w H _ a (.tup vs) from ok a _ x)
    exact ⟨its, o, n, rv, h1, h2, h3⟩
  · exact ⟨its.toList, o, n, h5, kin a o h1, h2, by simpa using h3⟩
mutual
/-- the value v is the key k, as far as the tuples of H tell -/
def NkV (K : PySem.W.Frag) (H : Hp) : NestedKey → V → Prop
  | .none, v => v = .non
  | .num i, v => v = .int i
  | .text x, v => v = .str x
  | .tup ks, v => ∃ (a : Addr) (vs : List V), v = .ref a ∧ TupK K H a vs ∧ NkA K H ks vs
def NkA (K : PySem.W.Frag) (H : Hp) : List NestedKey → List V → Prop
  | [], vs => vs = []
  | k :: ks, vs => ∃ v vs', vs = v :: vs' ∧ NkV K H k v ∧ NkA K H ks vs'
end
mutual
theorem NkV.same {K : PySem.W.Frag} {H H' : Hp} (s : ∀ b xs, H b = some (.tup xs) → H' b = some (.tup xs)) : ∀ (k : NestedKey) (v : V), NkV K H k v → NkV K H' k v
  | .none, _, h => by rw [NkV] at h ⊢; exact h
  | .num _, _, h => by rw [NkV] at h ⊢; exact h
  | .text _, _, h => by rw [NkV] at h ⊢; exact h
  | .tup ks, _, h => by
    rw [NkV] at h ⊢
    obtain ⟨a, vs, e1, e2, e3⟩ := h
    exact ⟨a, vs, e1, e2.same s, NkA.same s ks vs e3⟩
theorem NkA.same {K : PySem.W.Frag} {H H' : Hp} (s : ∀ b xs, H b = some (.tup xs) → H' b = some (.tup xs)) : ∀ (ks : List NestedKey) (vs : List V), NkA K H ks vs → NkA K H' ks vs
  | [], _, h => by rw [NkA] at h ⊢; exact h
  | k :: ks, _, h => by
    rw [NkA] at h ⊢
    obtain ⟨v, vs', e1, e2, e3⟩ := h
    exact ⟨v, vs', e1, NkV.same s k v e2, NkA.same s ks vs' e3⟩
end
mutual
theorem NkV.is {P : Program} {w : World} {K : PySem.W.Frag} {H : Hp} {h : Heap} (kin : K.In h) (ok : HOk P w H h) : ∀ (k : NestedKey) (v : V) (u : Value), NkV K H k v → RelV v u → NestedIs h k u
  | .none, _, u, h, r => by
    rw [NkV] at h
    subst h
    obtain rfl : u = Value.none := r
    exact .none
  | .num i, _, u, h, r => by
    rw [NkV] at h
    subst h
    obtain ⟨t, rfl⟩ := r
    exact .int _ _
  | .text x, _, u, h, r => by
    rw [NkV] at h
    subst h
    obtain ⟨t, rfl⟩ := r
    exact .text _ _
  | .tup ks, _, u, h, r => by
    rw [NkV] at h
    obtain ⟨a, vs, rfl, e2, e3⟩ := h
    obtain rfl : u = Value.ref a := r
    obtain ⟨its, o, n, rv, h1, h2, h3⟩ := e2.is kin ok
    exact .tup h1 h2 h3 (by simpa using NkA.is kin ok ks vs its e3 rv)
theorem NkA.is {P : Program} {w : World} {K : PySem.W.Frag} {H : Hp} {h : Heap} (kin : K.In h) (ok : HOk P w H h) : ∀ (ks : List NestedKey) (vs : List V) (us : List Value), NkA K H ks vs → Vals vs us → NestedAll h ks us
  | [], _, us, h, r => by
    rw [NkA] at h
    subst h
    cases r
    exact .nil
  | k :: ks, _, us, h, r => by
    rw [NkA] at h
    obtain ⟨v, vs', rfl, e2, e3⟩ := h
    cases r with
    | cons r1 r2 => exact .cons (NkV.is kin ok k _ _ e2 r1) (NkA.is kin ok ks _ _ e3 r2)
end
/-- the pairs as they lie: the key, the tuple that it is, the value -/
abbrev Ent := NestedKey × Addr × V
abbrev Raw := NestedKey × Addr × Value
def DNO (P : Program) (w : World) (d : Addr) (xs : List Raw) : HO := .ext fun h => xs.length ≤ sizeLine ∧ (d == sysModules) = false ∧ (xs.map (·.1)).Nodup ∧ ∃ o es ep, h.get? d = some o ∧ o.ExactDict ∧ o.data = .dict es ep ∧ es.toList = xs.map (entryOfKey (nestedKind P w))
def RelE (p : Ent) (q : Raw) : Prop := p.1 = q.1 ∧ p.2.1 = q.2.1 ∧ RelV p.2.2 q.2.2
/-- at d lies a dict with these pairs -/
structure DN (P : Program) (w : World) (K : PySem.W.Frag) (H : Hp) (d : Addr) (kvs : List Ent) : Prop where
  ex : ∃ xs : List Raw, H d = some (DNO P w d xs) ∧ Paired RelE kvs xs
  key : ∀ p ∈ kvs, NkV K H p.1 (.ref p.2.1) ∧ p.1.depth ≤ 8
def valN (kvs : List Ent) (k : NestedKey) : Option V := (kvs.find? fun p => decide (p.1 = k)).map (·.2.2)
def putN (kvs : List Ent) (k : NestedKey) (a : Addr) (v : V) : List Ent := if (valN kvs k).isSome then kvs.map (fun p => if p.1 = k then (p.1, p.2.1, v) else p) else kvs ++ [(k, a, v)]
theorem putN_new {kvs : List Ent} {k : NestedKey} (h : valN kvs k = none) (a : Addr) (v : V) : putN kvs k a v = kvs ++ [(k, a, v)] := by unfold putN; rw [h]; rfl
section
variable {P : Program} {w : World} {K : PySem.W.Frag} {H H' : Hp} {d : Addr} {kvs : List Ent} {xs : List Raw}
theorem DN.same (s : ∀ b o, H b = some o → H' b = some o) (h : DN P w K H d kvs) : DN P w K H' d kvs := by
  obtain ⟨⟨xs, e, r⟩, hk⟩ := h
  exact ⟨⟨xs, s _ _ e, r⟩, fun p hp => ⟨NkV.same (fun b xs e => s _ _ e) _ _ (hk p hp).1, (hk p hp).2⟩⟩
theorem DN.keep (hd : ∀ o, H d = some o → H' d = some o) (s : ∀ b xs, H b = some (.tup xs) → H' b = some (.tup xs)) (h : DN P w K H d kvs) : DN P w K H' d kvs := by
  obtain ⟨⟨xs, e, r⟩, hk⟩ := h
  exact ⟨⟨xs, hd _ e, r⟩, fun p hp => ⟨NkV.same s _ _ (hk p hp).1, (hk p hp).2⟩⟩
theorem rel_find (r : Paired RelE kvs xs) (k : NestedKey) : (valN kvs k = none ∧ atKey xs k = none) ∨ ∃ v q, valN kvs k = some v ∧ atKey xs k = some q ∧ RelV v q.2 := by
  induction r with
  | nil => exact .inl ⟨rfl, rfl⟩
  | @cons p q ps qs e t ih =>
    obtain ⟨e1, e2, e3⟩ := e
    unfold valN atKey
    rw [List.find?_cons, List.find?_cons]
    by_cases c : q.1 = k
    · rw [decide_eq_true (e1.trans c), decide_eq_true c]
      exact .inr ⟨_, _, rfl, rfl, e3⟩
    · rw [decide_eq_false (fun z => c (e1.symm.trans z)), decide_eq_false c]
      exact ih
theorem rel_len (r : Paired RelE kvs xs) : kvs.length = xs.length := by
  induction r with
  | nil => rfl
  | cons _ _ ih => rw [List.length_cons, List.length_cons, ih]
theorem rel_keys (r : Paired RelE kvs xs) : ∀ q ∈ xs, ∃ p ∈ kvs, p.1 = q.1 ∧ p.2.1 = q.2.1 := by
  induction r with
  | nil => intro q hq; cases hq
  | @cons p q ps qs e t ih =>
    intro z hz
    rcases List.mem_cons.mp hz with rfl | hz
    · exact ⟨p, List.mem_cons_self, e.1, e.2.1⟩
    · obtain ⟨p', h1, h2⟩ := ih z hz
      exact ⟨p', List.mem_cons_of_mem _ h1, h2⟩
theorem rel_snoc (r : Paired RelE kvs xs) {p : Ent} {q : Raw} (e : RelE p q) : Paired RelE (kvs ++ [p]) (xs ++ [q]) := by
  induction r with
  | nil => exact .cons e .nil
  | cons h _ ih => exact .cons h ih
theorem rel_repl (r : Paired RelE kvs xs) (k : NestedKey) {v : V} {u : Value} (e : RelV v u) : Paired RelE (kvs.map fun p => if p.1 = k then (p.1, p.2.1, v) else p) (xs.map (putAt k u)) := by
  induction r with
  | nil => exact .nil
  | @cons p q ps qs h _ ih =>
    refine .cons ?_ ih
    unfold putAt
    show RelE (if p.1 = k then (p.1, p.2.1, v) else p) _
    by_cases c : q.1 = k
    · rw [if_pos (h.1.trans c), if_pos c]
      exact ⟨h.1, h.2.1, e⟩
    · rw [if_neg (fun z => c (h.1.symm.trans z)), if_neg c]
      exact h
theorem rel_put (r : Paired RelE kvs xs) (k : NestedKey) (a : Addr) {v : V} {u : Value} (e : RelV v u) : Paired RelE (putN kvs k a v) (storedH xs k a u) := by
  unfold putN storedH
  rcases rel_find r k with ⟨h1, h2⟩ | ⟨v', q, h1, h2, _⟩
  · rw [h1, h2]
    exact rel_snoc r ⟨rfl, rfl, e⟩
  · rw [h1, h2]
    exact rel_repl r k e
theorem putN_len (k : NestedKey) (a : Addr) (v : V) : (putN kvs k a v).length ≤ kvs.length + 1 := by
  unfold putN
  split
  · rw [List.length_map]; omega
  · rw [List.length_append]; exact Nat.le_refl _
theorem putN_key (hk : ∀ p ∈ kvs, NkV K H p.1 (.ref p.2.1) ∧ p.1.depth ≤ 8) {k : NestedKey} {a : Addr} {v : V} (h : NkV K H k (.ref a)) (hd : k.depth ≤ 8) : ∀ p ∈ putN kvs k a v, NkV K H p.1 (.ref p.2.1) ∧ p.1.depth ≤ 8 := fun p hp => by
  unfold putN at hp
  split at hp
  · obtain ⟨q, hq, e⟩ := List.mem_map.mp hp
    have := hk q hq
    split at e <;> (subst e; exact this)
  · rcases List.mem_append.mp hp with z | z
    · exact hk p z
    · rw [List.mem_singleton.mp z]; exact ⟨h, hd⟩
end
section
variable {X : Cx} {pins : List (Addr × Obj)} {σ : L2.St} {H : Hp} {s : Shared} {d a : Addr} {kvs : List Ent} {xs : List Raw} {k : NestedKey} {P : Program} {w : World} {K : PySem.W.Frag}
theorem dn_heap {h : Heap} (kin : K.In h) (ok : HOk P w H h) (e : H d = some (DNO P w d xs)) (r : Paired RelE kvs xs) (hk : ∀ p ∈ kvs, NkV K H p.1 (.ref p.2.1) ∧ p.1.depth ≤ 8) : xs.length ≤ sizeLine ∧ (d == sysModules) = false ∧ h.DictOfH (nestedKind P w) d xs := by
  obtain ⟨⟨z, y, nd, o, es, ep, h1, h2, h3, h4⟩, _, _⟩ := (show ObjOk P w H h d (DNO P w d xs) from ok d _ e)
  refine ⟨z, y, o, es, ep, h1, h2, h3, h4, fun q hq => ?_, nd⟩
  obtain ⟨p, hp, e1, e2⟩ := rel_keys r q hq
  obtain ⟨k1, k2⟩ := hk p hp
  rw [e1, e2] at k1
  exact ⟨NkV.is kin ok _ _ _ k1 rfl, by rw [← e1]; exact k2⟩
theorem dno_ok {h : Heap} (z : xs.length ≤ sizeLine) (y : (d == sysModules) = false) (D : h.DictOfH (nestedKind P w) d xs) : ObjOk P w H h d (DNO P w d xs) := by
  obtain ⟨o, es, ep, h1, h2, h3, h4, _, nd⟩ := D
  refine ⟨⟨z, y, nd, o, es, ep, h1, h2, h3, h4⟩, ⟨o, h1⟩, fun g1 g2 ⟨z, y, nd, o, es, ep, e1, e2, e3, e4⟩ st => ⟨z, y, nd, o, es, ep, st _ e1, e2, e3, e4⟩⟩
theorem dno_new (h : Heap) (hb : sysModules < h.objs.size) : ObjOk P w H (h.push { cls := .type "dict", data := .dict #[] }) h.objs.size (DNO P w h.objs.size []) := by
  obtain ⟨_, hsm, xs, r, o, es, ep, h1, h2, h3, h4, _⟩ := (dt_empty (P := P) (w := w) (H := H) h hb)
  cases r
  exact ⟨⟨Nat.zero_le _, hsm, List.nodup_nil, o, es, ep, h1, h2, h3, h4⟩, ⟨o, h1⟩, fun g1 g2 ⟨z, y, nd, o, es, ep, e1, e2, e3, e4⟩ st => ⟨z, y, nd, o, es, ep, st _ e1, e2, e3, e4⟩⟩
theorem dn_nil (d : Addr) (H : Hp) : DN P w K (upd H d (DNO P w d [])) d [] := ⟨⟨[], upd_same, .nil⟩, fun p hp => by cases hp⟩
/-- {} that is to hold such keys -/
def tDNew (P : Program) (w : World) : TE := fun σ H Q => ∀ p, H p = none → Q (.ref p) (upd H p (DNO P w p []))
theorem pe_dnewN (hp : X.prog = P) (hw : X.w = w) {pos : Pos} : PE X (.Dict [] [] pos) (tDNew P w) := by
  subst hp hw
  refine ⟨fun pins s σ H Q I h => wpAny_Dict_empty ?_⟩
  have I1 : Inv X pins σ (upd H s.heap.objs.size (DNO X.prog X.w s.heap.objs.size [])) { s with heap := s.heap.push { cls := .type "dict", data := .dict #[] } } :=
    I.laid (t' := s.toks) (fun _ _ q => Heap.get?_push_of_some _ q) (Nat.le_refl _) (dno_new s.heap I.big)
  exact ⟨.ref _, _, I1, rfl, h _ (I.hok.fresh (Nat.le_refl _))⟩
/-- what the dict at d holds at y -/
def DGN (P : Program) (w : World) (K : PySem.W.Frag) (H : Hp) (d : Addr) (y : V) (r : Option V) : Prop := ∃ kvs k b, DN P w K H d kvs ∧ y = .ref b ∧ NkV K H k (.ref b) ∧ k.depth ≤ 8 ∧ r = valN kvs k
theorem dgn_of (I : Inv X pins σ H s) {y : V} {r : Option V} (g : DGN X.prog X.w X.K H d y r) : ∃ kvs xs k b, y = .ref b ∧ r = valN kvs k ∧ Paired RelE kvs xs ∧ xs.length ≤ sizeLine ∧ (d == sysModules) = false ∧ s.heap.DictOfH (nestedKind X.prog X.w) d xs ∧ (nestedKind X.prog X.w).is s.heap k b := by
  obtain ⟨kvs, k, b, ⟨⟨xs, e, r⟩, hk⟩, rfl, h2, h3, rfl⟩ := g
  obtain ⟨z, y, D⟩ := dn_heap I.kIn I.hok e r hk
  exact ⟨kvs, xs, k, b, rfl, rfl, r, z, y, D, NkV.is I.kIn I.hok _ _ _ h2 rfl, h3⟩
def tDGetN (P : Program) (w : World) (K : PySem.W.Frag) (td ty : TE) : TE := fun σ H Q => td σ H fun x H1 => ty σ H1 fun y H2 => ∃ a v, x = .ref a ∧ DGN P w K H2 a y (some v) ∧ Q v H2
def tDNotInN (P : Program) (w : World) (K : PySem.W.Frag) (ty td : TE) : TE := fun σ H Q => ty σ H fun y H1 => td σ H1 fun x H2 => ∃ a o, x = .ref a ∧ DGN P w K H2 a y o ∧ Q (.bl (!o.isSome)) H2
def tDInN (P : Program) (w : World) (K : PySem.W.Frag) (ty td : TE) : TE := fun σ H Q => ty σ H fun y H1 => td σ H1 fun x H2 => ∃ a o, x = .ref a ∧ DGN P w K H2 a y o ∧ Q (.bl o.isSome) H2
/-- what holds of each heap behind d[y] = v -/
def DPN (P : Program) (w : World) (K : PySem.W.Frag) (H : Hp) (d : Addr) (y v : V) (Q : Hp → Prop) : Prop := ∃ kvs k b, DN P w K H d kvs ∧ y = .ref b ∧ NkV K H k (.ref b) ∧ k.depth ≤ 8 ∧ kvs.length < sizeLine ∧ ∀ H', (∀ c, c ≠ d → H' c = H c) → (∃ φ, H' d = some (.ext φ)) → DN P w K H' d (putN kvs k b v) → Q H'
def sDPutN (P : Program) (w : World) (K : PySem.W.Frag) (td ty tv : TE) : TS := fun D σ H => tv σ H fun v H1 => td σ H1 fun x H2 => ty σ H2 fun y H3 => ∃ a, x = .ref a ∧ DPN P w K H3 a y v fun H4 => D.nx σ H4
section
variable {o i value : Expr} {pos pos' : Pos} {td ty tv : TE}
theorem pe_dgetN (hp : X.prog = P) (hw : X.w = w) (hK : X.K = K) (hu : X.A.units + 65 < cLine) (ho : PE X o td) (hi : PE X i ty) (hs : NoSl i) : PE X (.Subscript o i pos) (tDGetN P w K td ty) := by
  subst hp hw hK
  refine ⟨fun pins s σ H Q I h => ?_⟩
  refine subD_of PySem.F.slot_dict_getitem.lookup hs (thn (ho.run pins s σ H _ I h) fun u s1 ⟨x, H1, I1, rx, q1⟩ => thn (hi.run pins s1 σ H1 _ I1 q1) fun iv s2 ⟨y, H2, I2, ry, a, v, ex, g, q2⟩ => ?_)
  subst ex
  obtain rfl : u = Value.ref a := rx
  obtain ⟨kvs, xs, k, b, rfl, h2, r, z, y', D, hk⟩ := dgn_of I2 g
  obtain rfl : iv = Value.ref b := ry
  refine ⟨D.typeIs, ?_⟩
  rcases rel_find r k with ⟨h1, _⟩ | ⟨v', q', h1, h3, h4⟩
  · rw [h1] at h2; cases h2
  · rw [h1] at h2
    cases h2
    exact wpAny_getItem_heap (knd := nestedKind X.prog X.w) (by show X.A.units + 1 + 8 < cLine; omega) hk D h3 ⟨v, H2, I2.tok _, h4, q2⟩
theorem pc_dnotinN (hp : X.prog = P) (hw : X.w = w) (hK : X.K = K) (hu : X.A.units + 65 < cLine) (hi : PE X i ty) (ho : PE X o td) : PC X .NotIn i o (tDNotInN P w K ty td) := by
  subst hp hw hK
  refine ⟨fun pins s σ H Q I h => ?_⟩
  refine thn (hi.run pins s σ H _ I h) fun iv s1 ⟨y, H1, I1, ry, q1⟩ => thn (ho.run pins s1 σ H1 _ I1 q1) fun u s2 ⟨x, H2, I2, rx, a, ov, ex, g, q2⟩ => ?_
  subst ex
  obtain rfl : u = Value.ref a := rx
  obtain ⟨kvs, xs, k, b, rfl, rfl, r, z, y', D, hk⟩ := dgn_of I2 g
  obtain rfl : iv = Value.ref b := ry
  refine wpAny_notIn_heap (knd := nestedKind X.prog X.w) (by show X.A.units + 1 + 8 < cLine; omega) hk y' D ?_
  refine ⟨.bl (!(valN kvs k).isSome), H2, I2.tok _, ?_, q2⟩
  rcases rel_find r k with ⟨h1, h2⟩ | ⟨v', q', h1, h2, _⟩ <;> (rw [h1, h2]; rfl)
theorem pc_dinN (hp : X.prog = P) (hw : X.w = w) (hK : X.K = K) (hu : X.A.units + 65 < cLine) (hi : PE X i ty) (ho : PE X o td) : PC X .In i o (tDInN P w K ty td) := by
  subst hp hw hK
  refine ⟨fun pins s σ H Q I h => ?_⟩
  refine thn (hi.run pins s σ H _ I h) fun iv s1 ⟨y, H1, I1, ry, q1⟩ => thn (ho.run pins s1 σ H1 _ I1 q1) fun u s2 ⟨x, H2, I2, rx, a, ov, ex, g, q2⟩ => ?_
  subst ex
  obtain rfl : u = Value.ref a := rx
  obtain ⟨kvs, xs, k, b, rfl, rfl, r, z, y', D, hk⟩ := dgn_of I2 g
  obtain rfl : iv = Value.ref b := ry
  refine wpAny_in_heap (knd := nestedKind X.prog X.w) (by show X.A.units + 1 + 8 < cLine; omega) hk y' D ?_
  refine ⟨.bl (valN kvs k).isSome, H2, I2.tok _, ?_, q2⟩
  rcases rel_find r k with ⟨h1, h2⟩ | ⟨v', q', h1, h2, _⟩ <;> (rw [h1, h2]; rfl)
end
/-- what is left where the dict's object was replaced -/
theorem dn_new {h' : Heap} {t' : Nat} {v : V} {u : Value} {Q : Unit → Shared → Prop} (I : Inv X pins σ H s) (e : H d = some (DNO X.prog X.w d xs)) (r : Paired RelE kvs xs) (hk : ∀ p ∈ kvs, NkV X.K H p.1 (.ref p.2.1) ∧ p.1.depth ≤ 8) (y : (d == sysModules) = false)
    (hka : NkV X.K H k (.ref a)) (hdp : k.depth ≤ 8) (hl : kvs.length < sizeLine) (rv : RelV v u) (D' : h'.DictOfH (nestedKind X.prog X.w) d (storedH xs k a u)) (hs : Heap.SameBut d s.heap h')
    (h : ∀ H' s', (∀ b, b ≠ d → H' b = H b) → (∃ φ, H' d = some (.ext φ)) → DN X.prog X.w X.K H' d (putN kvs k a v) → Inv X pins σ H' s' → Q () s') : Q () { s with heap := h', toks := t' } := by
  have r2 := rel_put r k a rv
  have l2 : (storedH xs k a u).length ≤ sizeLine := by
    rw [← rel_len r2]
    have := putN_len (kvs := kvs) k a v
    omega
  have nt : ∀ b vs, H b = some (.tup vs) → b ≠ d := fun b vs hb z => by rw [z, e] at hb; cases hb
  refine h (upd H d (DNO X.prog X.w d (storedH xs k a u))) _ (fun b hb => upd_ne hb) ⟨_, upd_same⟩ ⟨⟨_, upd_same, r2⟩, fun p hp => ?_⟩ (d_write I (by rw [e]; exact True.intro) hs ?_ (dno_ok l2 y D'))
  · have := putN_key hk (v := v) hka hdp p hp
    exact ⟨NkV.same (fun b vs hb => by rw [upd_ne (nt b vs hb)]; exact hb) _ _ this.1, this.2⟩
  · obtain ⟨o, _, _, h1, _⟩ := D'
    exact ⟨o, h1⟩
theorem ps_dputN {o i value : Expr} {pos pos' : Pos} {td ty tv : TE} (hp : X.prog = P) (hw : X.w = w) (hK : X.K = K) (hu : X.A.units + 65 < cLine) (ho : PE X o td) (hi : PE X i ty) (hv : PE X value tv) (hs : swapsWith value (some (.Subscript o i pos')) pos.line X.env = pure false) :
    PS X (.Assign [.Subscript o i pos'] value pos) (sDPutN P w K td ty tv) := by
  subst hp hw hK
  refine ⟨fun pins s σ H D I h => ?_⟩
  refine wpAny_Assign_Subscript (thn (hv.run pins s σ H _ I h) fun r s1 ⟨v, H1, I1, rv, q1⟩ => thn (ho.run pins s1 σ H1 _ I1 q1) fun u s2 ⟨x, H2, I2, rx, q2⟩ => thn (hi.run pins s2 σ H2 _ I2 q2) fun iv s3 ⟨y, H3, I3, ry, a, ex, g⟩ => ?_) hs
  subst ex
  obtain rfl : u = Value.ref a := rx
  obtain ⟨kvs, k, b, ⟨⟨xs, e, rp⟩, hk⟩, rfl, hka, hdp, hl, q⟩ := g
  obtain rfl : iv = Value.ref b := ry
  obtain ⟨z, y, DD⟩ := dn_heap I3.kIn I3.hok e rp hk
  have hz : xs.length ≤ sizeLine := z
  refine wpAny_setItem_heap (knd := nestedKind X.prog X.w) (hsz := hz) (by show X.A.units + 1 + 8 < cLine; omega) ⟨NkV.is I3.kIn I3.hok _ _ _ hka rfl, hdp⟩ DD fun h' D' hs => ?_
  exact dn_new (t' := _) (Q := fun _ s' => SP X pins D Flow.next s') I3 e rp hk y hka hdp hl rv D' hs fun H' s' k1 k2 D' I' => ⟨σ, H', I', q H' k1 k2 D'⟩
theorem put_inN {E : Value → Shared → Prop} {y z : V} {u r : Value} {Q : Unit → Shared → Prop} {R : Hp → Prop} (hu : X.A.units + 65 < cLine) (I : Inv X pins σ H s) (g : DPN X.prog X.w X.K H d y z R) (ry : RelV y u) (rz : RelV z r)
    (h : ∀ H' s', Inv X pins σ H' s' → R H' → Q () s') : wpAny (model X.prog X.w) X.A (dictSet d u r) Q E s := by
  obtain ⟨kvs, k, b, ⟨⟨xs, e, rp⟩, hk⟩, rfl, hka, hdp, hl, q⟩ := g
  cases (show u = Value.ref b from ry)
  obtain ⟨zl, hsm, DO⟩ := dn_heap I.kIn I.hok e rp hk
  refine wpAny_dictSet_heap (knd := nestedKind X.prog X.w) (by show X.A.units + 8 < cLine; omega) ⟨NkV.is I.kIn I.hok _ _ _ hka rfl, hdp⟩ DO (fun h' DO' sb => ?_) zl
  exact dn_new (t' := _) I e rp hk hsm hka hdp hl rz DO' sb fun H' s' k1 k2 D' I' => h H' s' I' (q H' k1 k2 D')
/-- {k: v for ..}: the new dict D, an entry a turn -/
def tDcN (P : Program) (w : World) (K : PySem.W.Frag) (wi : TI) (g : TG) (tt : TT) (tk tv : TE) (vs : List Nat) : TE := fun σ H Q => wi σ H fun J H1 => ∀ D, H1 D = none → ∃ W : Nat → Nat → Hp → Prop, (∃ m, W 0 m (upd H1 D (DNO P w D []))) ∧ ∀ i m H2, W i m H2 →
  (J.stop i H2 ∧ Q (.ref D) H2) ∨ (J.go i H2 ∧ ∃ Nx : Hp → Prop, (∀ H', Nx H' → ∃ m', m' < m ∧ W (i + 1) m' H') ∧ ∀ x H3, J.yld i H2 x H3 → g x (wipe σ vs) H3 fun σ2 H4 => wipe σ2 vs = wipe σ vs ∧ tt σ2 H4 fun b H5 =>
    if b = true then tk σ2 H5 fun y H6 => tv σ2 H6 fun z H7 => DPN P w K H7 D y z Nx else Nx H5)
theorem pe_dcN {kx vx tg iter : Expr} {ifs : List Expr} {scope : Scope} {own : List (Str × Nat)} {pos : Pos} {wi : TI} {g : TG} {tt : TT} {tk tv : TE} (hp : X.prog = P) (hw : X.w = w) (hK : X.K = K) (hu : X.A.units + 65 < cLine) (hc : X.calm = true) (hN : X.N.Nodup) (hi : PI X tg iter wi) (ok : BlkOk X.N X.env.scope scope own)
    (hg : ∀ (s : Shared) (H : Hp) (C : Addr) (cl : List (Str × Addr)) (fp : List Addr), PG (X.blk s H scope (compEnvC scope cl C X.env) fp) tg g) (ht : ∀ (s : Shared) (H : Hp) (C : Addr) (cl : List (Str × Addr)) (fp : List Addr), PTs (X.blk s H scope (compEnvC scope cl C X.env) fp) ifs tt)
    (hk : ∀ (s : Shared) (H : Hp) (C : Addr) (cl : List (Str × Addr)) (fp : List Addr), PE (X.blk s H scope (compEnvC scope cl C X.env) fp) kx tk)
    (he : ∀ (s : Shared) (H : Hp) (C : Addr) (cl : List (Str × Addr)) (fp : List Addr), PE (X.blk s H scope (compEnvC scope cl C X.env) fp) vx tv) (hs : ∀ x, foldedSetIterable iter X.env x = pure x := by intro _; rfl) :
    PE X (.DictComp kx vx [⟨tg, iter, ifs, 0⟩] scope pos) (tDcN P w K wi g tt tk tv (own.map (·.2))) := by
  subst hp hw hK
  refine ⟨fun pins s σ H Q I h => ?_⟩
  rw [arm_eval_DictComp]
  refine wpAny_comprehension_free (use := none) rfl hs (closure_ok fun y hy e => (ok.free y hy e).elim (fun k => I.ok.has _ (.inl k)) (fun k => I.ok.has _ (.inr k))) ok.kind (fun y hy e => by rw [ok.uniq y hy, e]) (thn (hi.run pins s σ H _ I h) fun xv s1 hx => thn hx fun itv s2 h2 => ?_)
  obtain ⟨it, fp, tn, J, H2, rfl, I2, T, st2, f2, q⟩ := h2
  refine wpAny_newObj_type (newEnv_comp ?_)
  obtain ⟨D, hD⟩ : ∃ D, D = s2.heap.objs.size := ⟨_, rfl⟩
  rw [← hD]
  obtain ⟨W, ⟨m0, w0⟩, turn⟩ := q D (I2.hok.fresh (Nat.le_of_eq hD.symm))
  obtain ⟨H3, hH3⟩ : ∃ H3, H3 = upd H2 D (DNO X.prog X.w D []) := ⟨_, rfl⟩
  obtain ⟨s3, hs3⟩ : ∃ s3 : Shared, s3 = { s2 with heap := s2.heap.push { cls := .type "dict", data := .dict #[] } } := ⟨_, rfl⟩
  have hp3 : s3.heap = s2.heap.push { cls := .type "dict", data := .dict #[] } := by rw [hs3]
  have I3 : Inv X pins σ H3 s3 := by
    rw [hs3, hH3, hD]
    exact I2.laid (t' := s2.toks) (fun b o e => Heap.get?_push_of_some _ e) (Nat.le_refl _) (dno_new s2.heap I2.big)
  have f3 : ∀ b ∈ fp, FpOk X pins H3 b ∧ b < s3.heap.objs.size := fun b hb => by
    obtain ⟨o, e, _⟩ := T.obj _ _ st2 b hb
    have lt := Heap.lt_size e
    refine ⟨⟨?_, (f2 b hb).2⟩, by rw [hp3, Heap.size_push]; exact Nat.lt_succ_of_lt lt⟩
    rw [hH3, upd_ne (by rw [hD]; exact Nat.ne_of_lt lt)]
    exact (f2 b hb).1
  have I4 := block_start I3 ok hN f3
  rw [← hH3] at w0
  have st4 : tn 0 (pushCells (s3.heap.push { cls := .type "dict", data := .dict #[] }) scope.names) :=
    T.keep _ _ _ st2 fun b _ o e => pushCells_keeps _ _ _ _ (Heap.get?_push_of_some _ (by rw [hp3]; exact Heap.get?_push_of_some _ e))
  have core : codeAny (model X.prog X.w) X.A (.compStart (.DictComp kx vx [⟨tg, iter, ifs, 0⟩] scope pos) 0 (.ref it) (.ref D) (compEnvC scope (cellsFrom (s3.heap.objs.size + 1) scope.names (cloFrom X.env.cells scope.names [])) s3.heap.objs.size X.env))
      (compPost (model X.prog X.w) X.A X.xe none (EP X pins σ Q) (.ref D) s3.heap.objs.size) { s3 with heap := pushCells (s3.heap.push { cls := .type "dict", data := .dict #[] }) scope.names } := by
    have pg := hg s3 H3 s3.heap.objs.size (cellsFrom (s3.heap.objs.size + 1) scope.names (cloFrom X.env.cells scope.names [])) fp
    have pt := ht s3 H3 s3.heap.objs.size (cellsFrom (s3.heap.objs.size + 1) scope.names (cloFrom X.env.cells scope.names [])) fp
    have pk := hk s3 H3 s3.heap.objs.size (cellsFrom (s3.heap.objs.size + 1) scope.names (cloFrom X.env.cells scope.names [])) fp
    have pe := he s3 H3 s3.heap.objs.size (cellsFrom (s3.heap.objs.size + 1) scope.names (cloFrom X.env.cells scope.names [])) fp
    have cL : (compEnvC scope (cellsFrom (s3.heap.objs.size + 1) scope.names (cloFrom X.env.cells scope.names [])) s3.heap.objs.size X.env).locals = s3.heap.objs.size := rfl
    generalize compEnvC scope (cellsFrom (s3.heap.objs.size + 1) scope.names (cloFrom X.env.cells scope.names [])) s3.heap.objs.size X.env = ce at I4 pg pt pk pe cL ⊢
    have lay : ∀ {σ' : L2.St} {H' : Hp} {s' : Shared}, Inv (X.blk s3 H3 scope ce fp) [] σ' H' s' → (∀ b ∈ fp, H' b = none) → ∀ b ∈ fp, FpOk (X.blk s3 H3 scope ce fp) [] H' b := fun I' n b hb => ⟨n b hb, (I'.ok.exf b hb).1, I'.ok.exfs b hb, .inl hb, fun x c e => (I'.ok.exf b hb).2 x c e, fun p hp => nomatch (show p ∈ ([] : List (Addr × Obj)) from hp)⟩
    have turns : codeAny (model X.prog X.w) X.A (.compLoop (.DictComp kx vx [⟨tg, iter, ifs, 0⟩] scope pos) 0 (.ref it) (.ref D) ce) (compPost (model X.prog X.w) X.A X.xe none (EP X pins σ Q) (.ref D) s3.heap.objs.size) { s3 with heap := pushCells (s3.heap.push { cls := .type "dict", data := .dict #[] }) scope.names } := by
      refine compLoop_anyD (fun n s' => ∃ i H', Inv (X.blk s3 H3 scope ce fp) [] (wipe σ (own.map (·.2))) H' s' ∧ tn i s'.heap ∧ (∀ b ∈ fp, H' b = none) ∧ W i n H') ?_ m0 ⟨0, H3, I4, st4, fun b hb => (f3 b hb).1.1, w0⟩
      rintro n s5 ⟨i, H5, I5, st5, n5, w5⟩
      rcases turn i n H5 w5 with ⟨stop, qq⟩ | ⟨go, Nx, hNx, step⟩
      · refine thnF (T.done (X.blk s3 H3 scope ce fp) rfl rfl rfl hc i [] s5 _ H5 (fun _ _ => False) I5 (lay I5 n5) st5 stop) fun r s6 ⟨hr, I6⟩ => ?_
        subst hr
        have I7 : Inv X pins σ H5 s6 := I3.call' (ch := fp) I6.os I6.base I6.hok I6.bare fun b hb => ⟨(f3 b hb).1.2.2.2.1, (f3 b hb).1.2.1, (f3 b hb).1.2.2.2.2.1, (f3 b hb).1.2.2.2.2.2⟩
        have nC : H5 s3.heap.objs.size = none := by
          have zz : H5 ce.locals = none := I6.free
          rwa [cL] at zz
        obtain ⟨mm, hn, _⟩ := I6.loc
        have hn : s6.heap.Ns ce.locals mm := hn
        rw [cL] at hn
        obtain ⟨f0, f1, f4, f5, f6, f7⟩ := I3.fpOk (Nat.le_refl _) nC
        exact ⟨mm, hn, fun h'' sb => ⟨.ref D, H5, I7.turned (t' := s6.toks) (fun b o hb e => (sb.2 b hb).trans e) f0 f1 f5 f6 f7, rfl, qq⟩⟩
      · refine thnF (T.item (X.blk s3 H3 scope ce fp) rfl rfl rfl hc i [] s5 _ H5 (fun _ _ => False) I5 (lay I5 n5) st5 go) fun r s6 ⟨u, hr, h6⟩ => ?_
        subst hr
        refine thnF h6 fun _ s7 ⟨x, H7, I7, r7, y7, st7, n7⟩ => ?_
        refine thnF (pg.run _ s7 _ H7 x u _ (I7.pinned (lay I7 n7) (T.obj _ _ st7)) r7 (step x H7 y7)) fun _ s8 ⟨σ8, H8, I8, hw8, q8⟩ => ?_
        refine thnF (pt.run _ s8 σ8 H8 _ I8 q8) fun b s9 ⟨H9, I9, q9⟩ => ?_
        have next : ∀ {s' : Shared} {H' : Hp}, Inv (X.blk s3 H3 scope ce fp) ([] ++ pinsAt fp s7.heap) σ8 H' s' → Nx H' → ∃ m, m < n ∧ ∃ i H', Inv (X.blk s3 H3 scope ce fp) [] (wipe σ (own.map (·.2))) H' s' ∧ tn i s'.heap ∧ (∀ b ∈ fp, H' b = none) ∧ W i m H' := fun {s' H'} I' nx => by
          obtain ⟨m', hm, w'⟩ := hNx H' nx
          have pin' : ∀ b ∈ fp, ∀ o, s7.heap.get? b = some o → s'.heap.get? b = some o ∧ H' b = none := fun b hb o e => (fun z => ⟨z.1, z.2.1⟩) (I'.pin (b, o) (List.mem_append_right _ (List.mem_append_right _ (mem_pinsAt hb e))))
          refine ⟨m', hm, i + 1, H', (I'.unpinned (pins := [])).weak (by rw [← hw8, wipe_length]) (fun j v e => ?_), T.keep _ _ _ st7 fun b hb o e => (pin' b hb o e).1, fun b hb => ?_, w'⟩
          · rw [← hw8] at e
            exact (wipe_some e).1
          · obtain ⟨o, e, _⟩ := T.obj _ _ st7 b hb
            exact (pin' b hb o e).2
        cases b with
        | false => exact next I9 (by rwa [if_neg Bool.false_ne_true] at q9)
        | true =>
          rw [if_pos rfl] at q9
          refine thnF (pk.run _ s9 σ8 H9 _ I9 q9) fun kv s10 ⟨yk, H10, I10, r10, q10⟩ => ?_
          refine thnF (pe.run _ s10 σ8 H10 _ I10 q10) fun vv s11 ⟨yv, H11, I11, r11, g⟩ => ?_
          exact put_inN (X := X.blk s3 H3 scope ce fp) hu I11 g r10 r11 fun H12 s12 I12 nx => next I12 nx
    exact codeAny_compStart_dict turns (T.self X.A 0 _ _ _ st4 turns)
  rw [hs3] at core
  exact core
end
end Dn2
namespace Gk
/-! endless words of a pair of expressions -/
/-- m letters of an endless word from a turn on -/
def sg (wd : Nat → Int) (j m : Nat) : List Int := (List.range m).map fun i => wd (j + i)
theorem sg_len (wd : Nat → Int) (j m : Nat) : (sg wd j m).length = m := by unfold sg; rw [List.length_map, List.length_range]
theorem sg_get (wd : Nat → Int) {j m i : Nat} (h : i < m) : (sg wd j m)[i]? = some (wd (j + i)) := by
  unfold sg
  rw [List.getElem?_map, List.getElem?_range h]; rfl
theorem sg_succ (wd : Nat → Int) (j m : Nat) : sg wd j (m + 1) = wd j :: sg wd (j + 1) m := by
  unfold sg
  rw [List.range_succ_eq_map, List.map_cons, List.map_map]
  congr 1
  refine List.map_congr_left fun i _ => ?_
  show wd (j + (i + 1)) = wd (j + 1 + i)
  rw [Nat.add_right_comm j 1 i]
  rfl
theorem wy_fun {e : Ex} {p q : Nat} {w : List Int} (h : Wy e p w q) : ∃ g : Nat → Nat, g 0 = p ∧ g w.length = q ∧ ∀ i, i < w.length → fo e (g i) (g (i + 1)) = true ∧ (lt e)[g (i + 1)]? = w[i]? := by
  induction h with
  | nil p => exact ⟨fun _ => p, rfl, rfl, fun i h => absurd h (Nat.not_lt_zero _)⟩
  | @cons p q r a w k l _ ih =>
    obtain ⟨g, g0, g1, g2⟩ := ih
    refine ⟨fun i => match i with | 0 => p | i + 1 => g i, rfl, g1, fun i hi => ?_⟩
    cases i with
    | zero => exact ⟨by show fo e p (g 0) = true; rw [g0]; exact k, by show (lt e)[g 0]? = _; rw [g0, l]; rfl⟩
    | succ i => exact g2 i (Nat.lt_of_succ_lt_succ hi)
theorem fun_wy {e : Ex} : ∀ (w : List Int) (g : Nat → Nat), (∀ i, i < w.length → fo e (g i) (g (i + 1)) = true ∧ (lt e)[g (i + 1)]? = w[i]?) → Wy e (g 0) w (g w.length)
  | [], g, _ => .nil _
  | a :: w, g, h => .cons (h 0 (Nat.zero_lt_succ _)).1 (h 0 (Nat.zero_lt_succ _)).2 (fun_wy w (fun i => g (i + 1)) fun i hi => h (i + 1) (Nat.succ_lt_succ hi))
/-- a word of e, as its places turn by turn -/
structure Wk (e : Ex) (wd : Nat → Int) (j m : Nat) (g : Nat → Nat) : Prop where
  fs : fs e (g 0) = true
  lt : ∀ i, i < m → (lt e)[g i]? = some (wd (j + i))
  fo : ∀ i, i + 1 < m → fo e (g i) (g (i + 1)) = true
  la : la e (g (m - 1)) = true
theorem lg_wk {e : Ex} {wd : Nat → Int} {j m : Nat} (hm : 0 < m) : Lg e (sg wd j m) ↔ ∃ g, Wk e wd j m g := by
  obtain ⟨m, rfl⟩ : ∃ m', m = m' + 1 := ⟨m - 1, by omega⟩
  rw [lg_iff, sg_succ]
  constructor
  · rintro (⟨h, _⟩ | ⟨a, u, p, q, hw, h1, h2, h3, h4⟩)
    · cases h
    · obtain ⟨rfl, rfl⟩ := List.cons.inj hw
      obtain ⟨g, g0, g1, g2⟩ := wy_fun h3
      rw [sg_len] at g1 g2
      refine ⟨g, by rw [g0]; exact h1, fun i hi => ?_, fun i hi => (g2 i (by omega)).1, by rw [show m + 1 - 1 = m by omega, g1]; exact h4⟩
      cases i with
      | zero => rw [g0]; exact h2
      | succ i =>
        rw [(g2 i (by omega)).2, sg_get wd (show i < m by omega)]
        rw [show j + 1 + i = j + (i + 1) by omega]
  · rintro ⟨g, k⟩
    refine .inr ⟨wd j, sg wd (j + 1) m, g 0, g m, rfl, k.fs, k.lt 0 (by omega), ?_, k.la⟩
    have := fun_wy (e := e) (sg wd (j + 1) m) g fun i hi => by
      rw [sg_len] at hi
      exact ⟨k.fo i (by omega), by rw [k.lt (i + 1) (by omega), sg_get wd hi, show j + 1 + i = j + (i + 1) by omega]⟩
    rwa [sg_len] at this
/-- a word of e, then words of f for ever, none of these empty -/
def Mt (e f : Ex) (wd : Nat → Int) : Prop := ∃ k : Nat → Nat, Lg e (sg wd 0 (k 0)) ∧ ∀ i, k i < k (i + 1) ∧ Lg f (sg wd (k i) (k (i + 1) - k i))
/-- a state of the pair behind a state, for a letter -/
def Sx (e f : Ex) (pt : Int) (q : Nat) (z : Int) (pt' : Int) (q' : Nat) : Prop :=
  (pt = 0 ∧ pt' = 0 ∧ fo e q q' = true ∧ (lt e)[q']? = some z) ∨ (pt ≠ 0 ∧ pt' = 2 ∧ fo f q q' = true ∧ (lt f)[q']? = some z) ∨
  (pt = 0 ∧ la e q = true ∧ pt' = 1 ∧ fs f q' = true ∧ (lt f)[q']? = some z) ∨ (pt ≠ 0 ∧ la f q = true ∧ pt' = 1 ∧ fs f q' = true ∧ (lt f)[q']? = some z)
def Fx (e f : Ex) (z : Int) (pt' : Int) (q' : Nat) : Prop := (pt' = 0 ∧ fs e q' = true ∧ (lt e)[q']? = some z) ∨ (nul e = true ∧ pt' = 1 ∧ fs f q' = true ∧ (lt f)[q']? = some z)
theorem least {p : Nat → Prop} : ∀ n, p n → ∃ j, j ≤ n ∧ p j ∧ ∀ m, m < j → ¬ p m
  | n => fun h => by
    by_cases c : ∃ m, m < n ∧ p m
    · obtain ⟨m, hm, pm⟩ := c
      obtain ⟨j, h1, h2, h3⟩ := least m pm
      exact ⟨j, by omega, h2, h3⟩
    · exact ⟨n, Nat.le_refl _, h, fun m hm pm => c ⟨m, hm, pm⟩⟩
  termination_by n => n
theorem inc_ge {k : Nat → Nat} (h : ∀ i, k i < k (i + 1)) : ∀ d i, k i + d ≤ k (i + d)
  | 0, i => Nat.le_refl _
  | d + 1, i => by have := inc_ge h d i; have := h (i + d); show _ ≤ k (i + d + 1); omega
theorem seg_ex {k : Nat → Nat} (h : ∀ i, k i < k (i + 1)) : ∀ i, k 0 ≤ i → ∃ s, k s ≤ i ∧ i < k (s + 1)
  | i, h0 => by
    have h1 := inc_ge h (i + 1) 0
    obtain ⟨j, _, h2, h3⟩ := least (p := fun s => i < k (s + 1)) i (by show i < k (i + 1); rw [Nat.zero_add] at h1; omega)
    refine ⟨j, ?_, h2⟩
    cases j with
    | zero => exact h0
    | succ j =>
      have := h3 j (by omega)
      omega
theorem seg_un {k : Nat → Nat} (h : ∀ i, k i < k (i + 1)) {i s t : Nat} (h1 : k s ≤ i) (h2 : i < k (s + 1)) (h3 : k t ≤ i) (h4 : i < k (t + 1)) : s = t := by
  rcases Nat.lt_trichotomy s t with c | c | c
  · have := inc_ge h (t - (s + 1)) (s + 1)
    rw [show s + 1 + (t - (s + 1)) = t by omega] at this
    omega
  · exact c
  · have := inc_ge h (s - (t + 1)) (t + 1)
    rw [show t + 1 + (s - (t + 1)) = s by omega] at this
    omega
theorem mt_iff {e f : Ex} {wd : Nat → Int} : Mt e f wd ↔ ∃ (P : Nat → Int) (Q : Nat → Nat), Fx e f (wd 0) (P 0) (Q 0) ∧ (∀ i, Sx e f (P i) (Q i) (wd (i + 1)) (P (i + 1)) (Q (i + 1))) ∧ ∀ i, ∃ j, i < j ∧ P j = 1 := by
  constructor
  · rintro ⟨k, h0, hk⟩
    have inc : ∀ i, k i < k (i + 1) := fun i => (hk i).1
    obtain ⟨g0, hg0⟩ : ∃ g0, 0 < k 0 → Wk e wd 0 (k 0) g0 := by
      by_cases c : 0 < k 0
      · obtain ⟨g, hg⟩ := (lg_wk c).mp h0
        exact ⟨g, fun _ => hg⟩
      · exact ⟨fun _ => 0, fun z => absurd z c⟩
    obtain ⟨gs, hgs⟩ := Classical.axiomOfChoice fun s => (lg_wk (e := f) (wd := wd) (j := k s) (m := k (s + 1) - k s) (by have := inc s; omega)).mp (hk s).2
    obtain ⟨sx, hsx⟩ := Classical.axiomOfChoice (r := fun i s => k 0 ≤ i → k s ≤ i ∧ i < k (s + 1)) fun i => by
      by_cases c : k 0 ≤ i
      · obtain ⟨s, h⟩ := seg_ex inc i c
        exact ⟨s, fun _ => h⟩
      · exact ⟨0, fun z => absurd z c⟩
    have sxu : ∀ {i s}, k s ≤ i → i < k (s + 1) → sx i = s := fun {i s} h1 h2 => by
      have h3 := inc_ge inc s 0
      rw [Nat.zero_add] at h3
      have := hsx i (by omega)
      exact seg_un inc this.1 this.2 h1 h2
    have hz : ∀ s, k 0 ≤ k s := fun s => by have := inc_ge inc s 0; rw [Nat.zero_add] at this; omega
    have Plo : ∀ {i}, i < k 0 → (if i < k 0 then (0 : Int) else if i = k (sx i) then 1 else 2) = 0 := fun h => if_pos h
    have Phi : ∀ {i s}, k s ≤ i → i < k (s + 1) → (if i < k 0 then (0 : Int) else if i = k (sx i) then 1 else 2) = (if i = k s then 1 else 2) := fun {i s} h1 h2 => by
      have := hz s
      rw [if_neg (show ¬ i < k 0 by omega), sxu h1 h2]
    have Qlo : ∀ {i}, i < k 0 → (if i < k 0 then g0 i else gs (sx i) (i - k (sx i))) = g0 i := fun h => if_pos h
    have Qhi : ∀ {i s}, k s ≤ i → i < k (s + 1) → (if i < k 0 then g0 i else gs (sx i) (i - k (sx i))) = gs s (i - k s) := fun {i s} h1 h2 => by
      have := hz s
      rw [if_neg (show ¬ i < k 0 by omega), sxu h1 h2]
    refine ⟨fun i => if i < k 0 then 0 else if i = k (sx i) then 1 else 2, fun i => if i < k 0 then g0 i else gs (sx i) (i - k (sx i)), ?_, fun i => ?_, fun i => ?_⟩
    · show Fx e f (wd 0) (if 0 < k 0 then (0 : Int) else if 0 = k (sx 0) then 1 else 2) (if 0 < k 0 then g0 0 else gs (sx 0) (0 - k (sx 0)))
      by_cases c : 0 < k 0
      · rw [Plo c, Qlo c]
        have w := hg0 c
        exact .inl ⟨rfl, w.fs, w.lt 0 c⟩
      · have e0 : k 0 = 0 := by omega
        have h1 := inc 0
        rw [Phi (s := 0) (by omega) (by omega), Qhi (s := 0) (by omega) (by omega), if_pos e0.symm]
        have w := hgs 0
        have wl := w.lt 0 (by omega)
        rw [Nat.add_zero, e0] at wl
        rw [e0] at h0
        refine .inr ⟨nul_of h0 rfl, rfl, by rw [e0]; exact w.fs, by rw [e0]; exact wl⟩
    · show Sx e f (if i < k 0 then (0 : Int) else if i = k (sx i) then 1 else 2) (if i < k 0 then g0 i else gs (sx i) (i - k (sx i))) _ (if i + 1 < k 0 then (0 : Int) else if i + 1 = k (sx (i + 1)) then 1 else 2) (if i + 1 < k 0 then g0 (i + 1) else gs (sx (i + 1)) (i + 1 - k (sx (i + 1))))
      by_cases c : i < k 0
      · rw [Plo c, Qlo c]
        have w := hg0 (by omega)
        by_cases d : i + 1 < k 0
        · rw [Plo d, Qlo d]
          have := w.lt (i + 1) d
          rw [Nat.zero_add] at this
          exact .inl ⟨rfl, rfl, w.fo i d, this⟩
        · have e0 : k 0 = i + 1 := by omega
          have h1 := inc 0
          rw [Phi (s := 0) (by omega) (by omega), Qhi (s := 0) (by omega) (by omega), if_pos e0.symm]
          have v := hgs 0
          have vl := v.lt 0 (by omega)
          rw [Nat.add_zero, e0] at vl
          have wl := w.la
          rw [e0, show i + 1 - 1 = i by omega] at wl
          exact .inr (.inr (.inl ⟨rfl, wl, rfl, by rw [e0, Nat.sub_self]; exact v.fs, by rw [e0, Nat.sub_self]; exact vl⟩))
      · obtain ⟨a, b⟩ := hsx i (by omega)
        obtain ⟨s, hs⟩ : ∃ s, s = sx i := ⟨_, rfl⟩
        rw [← hs] at a b
        have v := hgs s
        rw [Phi a b, Qhi a b]
        have np : (if i = k s then (1 : Int) else 2) ≠ 0 := by split <;> decide
        by_cases d : i + 1 < k (s + 1)
        · rw [Phi (s := s) (by omega) d, Qhi (s := s) (by omega) d, if_neg (show ¬ i + 1 = k s by omega)]
          have v1 := v.fo (i - k s) (by omega)
          have v2 := v.lt (i - k s + 1) (by omega)
          rw [show k s + (i - k s + 1) = i + 1 by omega] at v2
          exact .inr (.inl ⟨np, rfl, by rw [show i + 1 - k s = i - k s + 1 by omega]; exact v1, by rw [show i + 1 - k s = i - k s + 1 by omega]; exact v2⟩)
        · have e0 : k (s + 1) = i + 1 := by omega
          have h1 := inc (s + 1)
          rw [Phi (s := s + 1) (by omega) (by omega), Qhi (s := s + 1) (by omega) (by omega), if_pos e0.symm]
          have v2 := hgs (s + 1)
          have vl := v2.lt 0 (by omega)
          rw [Nat.add_zero, e0] at vl
          have wl := v.la
          rw [e0, show i + 1 - k s - 1 = i - k s by omega] at wl
          exact .inr (.inr (.inr ⟨np, wl, rfl, by rw [e0, Nat.sub_self]; exact v2.fs, by rw [e0, Nat.sub_self]; exact vl⟩))
    · have h1 := inc_ge inc (i + 1) 0
      rw [Nat.zero_add] at h1
      refine ⟨k (i + 1), by omega, ?_⟩
      show (if k (i + 1) < k 0 then (0 : Int) else if k (i + 1) = k (sx (k (i + 1))) then 1 else 2) = 1
      rw [Phi (s := i + 1) (Nat.le_refl _) (inc _), if_pos rfl]
  · rintro ⟨P, Q, hF, hS, hi⟩
    have one : ∀ j, P j = 1 → fs f (Q j) = true ∧ (lt f)[Q j]? = some (wd j) := fun j hj => by
      cases j with
      | zero =>
        rcases hF with ⟨h, _⟩ | ⟨_, _, h1, h2⟩
        · rw [h] at hj; cases hj
        · exact ⟨h1, h2⟩
      | succ j =>
        rcases hS j with ⟨_, h, _⟩ | ⟨_, h, _⟩ | ⟨_, _, _, h1, h2⟩ | ⟨_, _, _, h1, h2⟩
        · rw [h] at hj; cases hj
        · rw [h] at hj; cases hj
        · exact ⟨h1, h2⟩
        · exact ⟨h1, h2⟩
    obtain ⟨nx, hnx⟩ := Classical.axiomOfChoice (r := fun i j => i < j ∧ P j = 1 ∧ ∀ m, i < m → m < j → P m ≠ 1) fun i => by
      obtain ⟨j, h1, h2⟩ := hi i
      obtain ⟨j', _, h3, h4⟩ := least (p := fun j => i < j ∧ P j = 1) j ⟨h1, h2⟩
      exact ⟨j', h3.1, h3.2, fun m h5 h6 h7 => h4 m h6 ⟨h5, h7⟩⟩
    obtain ⟨k0, k01, k02⟩ : ∃ k0, P k0 = 1 ∧ ∀ m, m < k0 → P m ≠ 1 := by
      obtain ⟨j, _, h2⟩ := hi 0
      obtain ⟨j', _, h3, h4⟩ := least (p := fun j => P j = 1) j h2
      exact ⟨j', h3, h4⟩
    obtain ⟨k, hk0, hks⟩ : ∃ k : Nat → Nat, k 0 = k0 ∧ ∀ i, k (i + 1) = nx (k i) := ⟨fun i => Nat.rec k0 (fun _ r => nx r) i, rfl, fun _ => rfl⟩
    have kP : ∀ i, P (k i) = 1 := fun i => by
      cases i with
      | zero => rw [hk0]; exact k01
      | succ i => rw [hks]; exact (hnx _).2.1
    have P0 : ∀ m, m < k 0 → P m = 0 := fun m => by
      rw [hk0]
      induction m with
      | zero =>
        intro h
        rcases hF with ⟨h1, _⟩ | ⟨_, h1, _⟩
        · exact h1
        · exact absurd h1 (k02 0 h)
      | succ m ih =>
        intro h
        have z := ih (by omega)
        rcases hS m with ⟨_, h1, _⟩ | ⟨h1, _⟩ | ⟨_, _, h1, _⟩ | ⟨h1, _⟩
        · exact h1
        · exact absurd z h1
        · exact absurd h1 (k02 _ h)
        · exact absurd z h1
    have F0 : ∀ m, m < k 0 → (lt e)[Q m]? = some (wd m) := fun m h => by
      have z := P0 m h
      cases m with
      | zero =>
        rcases hF with ⟨_, _, h1⟩ | ⟨_, h1, _⟩
        · exact h1
        · rw [z] at h1; cases h1
      | succ m =>
        rcases hS m with ⟨_, _, _, h1⟩ | ⟨_, h1, _⟩ | ⟨_, _, h1, _⟩ | ⟨_, _, h1, _⟩
        · exact h1
        · rw [z] at h1; cases h1
        · rw [z] at h1; cases h1
        · rw [z] at h1; cases h1
    have P2 : ∀ i d, 0 < d → k i + d < k (i + 1) → P (k i + d) = 2 := fun i d => by
      induction d with
      | zero => intro h; omega
      | succ d ih =>
        intro _ h
        have nz : P (k i + d) ≠ 0 := by
          rcases Nat.eq_zero_or_pos d with c | c
          · rw [c, Nat.add_zero, kP]; decide
          · rw [ih c (by omega)]; decide
        rcases hS (k i + d) with ⟨h1, _⟩ | ⟨_, h1, _⟩ | ⟨h1, _⟩ | ⟨_, _, h1, _⟩
        · exact absurd h1 nz
        · exact h1
        · exact absurd h1 nz
        · rw [hks] at h
          exact absurd h1 ((hnx (k i)).2.2 _ (by omega) h)
    have PN : ∀ i d, k i + d < k (i + 1) → P (k i + d) ≠ 0 := fun i d h => by
      rcases Nat.eq_zero_or_pos d with c | c
      · rw [c, Nat.add_zero, kP]; decide
      · rw [P2 i d c h]; decide
    refine ⟨k, ?_, fun i => ?_⟩
    · rcases Nat.eq_zero_or_pos (k 0) with c | c
      · rw [c]
        rcases hF with ⟨h1, _⟩ | ⟨h1, _⟩
        · have := kP 0
          rw [c, h1] at this; cases this
        · exact of_nul h1
      · refine (lg_wk c).mpr ⟨Q, ?_, fun i hi => by rw [Nat.zero_add]; exact F0 i hi, fun i hi => ?_, ?_⟩
        · rcases hF with ⟨_, h1, _⟩ | ⟨_, h1, _⟩
          · exact h1
          · have := P0 0 c
            rw [h1] at this; cases this
        · have z := P0 (i + 1) hi
          rcases hS i with ⟨_, _, h1, _⟩ | ⟨_, h1, _⟩ | ⟨_, _, h1, _⟩ | ⟨_, _, h1, _⟩
          · exact h1
          · rw [z] at h1; cases h1
          · rw [z] at h1; cases h1
          · rw [z] at h1; cases h1
        · have z := kP 0
          have y := P0 (k 0 - 1) (by omega)
          have s := hS (k 0 - 1)
          rw [show k 0 - 1 + 1 = k 0 by omega] at s
          rcases s with ⟨_, h1, _⟩ | ⟨h1, _⟩ | ⟨_, h1, _⟩ | ⟨h1, _⟩
          · rw [z] at h1; cases h1
          · exact absurd y h1
          · exact h1
          · exact absurd y h1
    · have inc : k i < k (i + 1) := by rw [hks]; exact (hnx (k i)).1
      refine ⟨inc, (lg_wk (by omega)).mpr ⟨fun t => Q (k i + t), (one _ (kP i)).1, fun t ht => ?_, fun t ht => ?_, ?_⟩⟩
      · show (lt f)[Q (k i + t)]? = _
        rcases Nat.eq_zero_or_pos t with c | c
        · rw [c]; exact (one _ (kP i)).2
        · have z := P2 i t c (by omega)
          have s := hS (k i + (t - 1))
          rw [show k i + (t - 1) + 1 = k i + t by omega] at s
          rcases s with ⟨_, h1, _⟩ | ⟨_, _, _, h1⟩ | ⟨_, _, h1, _⟩ | ⟨_, _, h1, _⟩
          · rw [z] at h1; cases h1
          · exact h1
          · rw [z] at h1; cases h1
          · rw [z] at h1; cases h1
      · show fo f (Q (k i + t)) (Q (k i + (t + 1))) = true
        have z := P2 i (t + 1) (by omega) (by omega)
        rcases hS (k i + t) with ⟨_, h1, _⟩ | ⟨_, _, h1, _⟩ | ⟨_, _, h1, _⟩ | ⟨_, _, h1, _⟩
        · rw [← Nat.add_assoc, h1] at z; cases z
        · exact h1
        · rw [← Nat.add_assoc, h1] at z; cases z
        · rw [← Nat.add_assoc, h1] at z; cases z
      · show la f (Q (k i + (k (i + 1) - k i - 1))) = true
        have z := kP (i + 1)
        have y := PN i (k (i + 1) - k i - 1) (by omega)
        have s := hS (k i + (k (i + 1) - k i - 1))
        rw [show k i + (k (i + 1) - k i - 1) + 1 = k (i + 1) by omega] at s
        rcases s with ⟨h1, _⟩ | ⟨_, h1, _⟩ | ⟨h1, _⟩ | ⟨_, h1, _⟩
        · exact absurd h1 y
        · rw [z] at h1; cases h1
        · exact absurd h1 y
        · exact h1
/-- the letters of a lasso -/
theorem sg_wd {ls : List Int} {back : Nat} : ∀ (m i : Nat), sg (fun i => ls.getD (pl ls.length back 0 i) 0) i m = wd ls back (pl ls.length back 0 i) m
  | 0, i => rfl
  | m + 1, i => by
    rw [sg_succ, sg_wd m (i + 1), pl_add ls.length back i 1 0]
    rfl
theorem mt_st {ls : List Int} {back : Nat} {e f : Ex} : Mt e f (fun i => ls.getD (pl ls.length back 0 i) 0) ↔ ∃ c : Nat → Nat, ((nul e = true ∧ c 0 = 0) ∨ St ls back e 0 (c 0)) ∧ ∀ i, St ls back f (c i) (c (i + 1)) := by
  constructor
  · rintro ⟨k, h0, hk⟩
    refine ⟨fun i => pl ls.length back 0 (k i), ?_, fun i => ?_⟩
    · rw [sg_wd] at h0
      rcases Nat.eq_zero_or_pos (k 0) with c | c
      · refine .inl ⟨?_, ?_⟩
        · rw [c] at h0; exact nul_of h0 rfl
        · show pl ls.length back 0 (k 0) = 0
          rw [c]; rfl
      · exact .inr ⟨k 0, c, rfl, h0⟩
    · obtain ⟨h1, h2⟩ := hk i
      rw [sg_wd] at h2
      refine ⟨k (i + 1) - k i, by omega, ?_, h2⟩
      rw [← pl_add, show k i + (k (i + 1) - k i) = k (i + 1) by omega]
  · rintro ⟨c, h0, hc⟩
    obtain ⟨m, hm⟩ := Classical.axiomOfChoice hc
    obtain ⟨m0, e0, l0⟩ : ∃ m0, pl ls.length back 0 m0 = c 0 ∧ Lg e (wd ls back 0 m0) := by
      rcases h0 with ⟨h1, h2⟩ | ⟨m0, _, h1, h2⟩
      · exact ⟨0, h2.symm, of_nul h1⟩
      · exact ⟨m0, h1, h2⟩
    obtain ⟨k, hk0, hks⟩ : ∃ k : Nat → Nat, k 0 = m0 ∧ ∀ i, k (i + 1) = k i + m i := ⟨fun i => Nat.rec m0 (fun i r => r + m i) i, rfl, fun _ => rfl⟩
    have at_ : ∀ i, pl ls.length back 0 (k i) = c i := fun i => by
      induction i with
      | zero => rw [hk0]; exact e0
      | succ i ih => rw [hks, pl_add, ih]; exact (hm i).2.1
    refine ⟨k, ?_, fun i => ?_⟩
    · rw [sg_wd, hk0]; exact l0
    · have h1 := (hm i).1
      refine ⟨by rw [hks]; omega, ?_⟩
      rw [sg_wd, at_, hks, show k i + m i - k i = m i by omega]
      exact (hm i).2.2
end Gk
/-! ### own rules: a lambda with parameters as a closure that is handed on -/
namespace Lm
open PySem PySem.Spec PyProof.Rows L2 LamX NdefX Clo
/-- the object at f is the lambda F (its statements aren't looked at) with the body e -/
def LmO (f : Addr) (F : NF) (e : Expr) : HO := .ext fun h => ∃ pm ctv : Value, h.get? f = some (PySem.W.kla_obj F.name F.qual F.params e F.scope F.cl pm F.c ctv)
theorem lmO_at {P : Program} {w : World} {H : Hp} {h : Heap} {f : Addr} {F : NF} {e : Expr} (hok : HOk P w H h) (k : H f = some (LmO f F e)) : ∃ pm ctv : Value, h.get? f = some (PySem.W.kla_obj F.name F.qual F.params e F.scope F.cl pm F.c ctv) := by
  obtain ⟨z, _, _⟩ := hok f _ k
  exact z
/-- its promise -/
structure LOk (P : Program) (w : World) (K : PySem.W.Frag) (mg : Str → Option Value) (base : Heap) (k : Nat) (f : Addr) (F : NF) (e : Expr) (ps fr : List Str) (sp : List (Option V) → Sp) : Prop where
  len : ∀ ws vs H Q E, sp ws vs H Q E → vs.length = ps.length
  run : ∀ (A : Around) (outer : List Env) (s : Shared) (H : Hp) (us : List Value) (vs : List V) (ws : List (Option V)) (Q : VK) (E : XK), Room k A → Env0 P w K mg base A outer s H → H f = some (LmO f F e) → H F.c = some (CodeO F.c F.qual) →
    CellsAt F.cl fr ws s.heap H → Vals vs us → sp ws vs H Q E → codeAny (model P w) A (.call (.ref f) ⟨us, []⟩) (CR CX0 outer P w H s Q E) s
section
variable {P : Program} {w : World} {K : PySem.W.Frag} {mg : Str → Option Value} {base : Heap} {N ps fr : List Str} {F : NF} {e : Expr} {f : Addr} {k : Nat} {sp : List (Option V) → Sp}
theorem lokC_of (S : CScope N ps fr F.scope) (hcl : ∀ y c, F.cl.lookup y = some c → F.scope.names.lookup y = some .free) (hb : ∀ (pm ctv : Value) (us : List Value), us.length = ps.length → bindArgs (PySem.W.kla_fn F.name F.qual F.params e F.scope F.cl pm (.ref F.c) ctv) ⟨us, []⟩ = pure (ps.zip us)) (len : ∀ ws vs H Q E, sp ws vs H Q E → vs.length = ps.length)
    (hbody : ∀ (A : Around) (outer : List Env) (s : Shared) (H : Hp) (vs : List V) (ws : List (Option V)) (Q : VK) (E : XK), Room k (A.deeper (envC F f s.heap.objs.size)) → H f = some (LmO f F e) → H F.c = some (CodeO F.c F.qual) → ws.length = fr.length → sp ws vs H Q E →
      ∃ t, PE (ncxC CX0 P w K mg base N F f A outer s H E).nox e t ∧ t (startF N vs ws) H Q) :
    LOk P w K mg base (k + 1) f F e ps fr sp := by
  refine ⟨len, fun A outer s H us vs ws Q E hr e0 hf hc C r hsp => ?_⟩
  have hl := len _ _ _ _ _ hsp
  have lim : s.heap.NoLimit := e0.mod.nolimit.keeps fun b o e => (e0.bs b o e).1
  obtain ⟨pm, ctv, ho⟩ := lmO_at e0.hok hf
  refine PySem.W.kla_callFunE hr.depth ho rfl S.co S.gen rfl (codeO_at e0.hok hc) ?_
  rw [hb pm ctv us (by rw [← r.length]; exact hl)]
  have hpk : ∀ x ∈ ps.zip us, F.scope.names.lookup x.1 = some .local ∨ F.scope.names.lookup x.1 = some .cell := fun ⟨n, v⟩ hx => S.par n (List.of_mem_zip hx).1
  refine wpAny_pure (newEnv_clo S.kind hpk (fun x hx => ?_) fun s1 x => ?_)
  · show F.cl.lookup x.1 = none
    cases q : F.cl.lookup x.1 with
    | none => rfl
    | some c =>
      have h1 := hcl x.1 c q
      rcases hpk x hx with h2 | h2 <;> rw [h1] at h2 <;> cases h2
  refine ⟨lim.keeps x.toInCall.keep, ?_⟩
  show codeAny _ _ (.expr e (envC F f s.heap.objs.size)) _ _
  refine PySem.W.kla_codeExpr ?_
  obtain ⟨t, ht, hq⟩ := hbody A outer s H vs ws Q E (hr.deeper _) hf hc C.len hsp
  have I : Inv (ncxC CX0 P w K mg base N F f A outer s H E) [] (startF N vs ws) H s1 := inv_startC S hr.hd e0 hl r C hcl x
  refine wpAny_mono (ht.nox.run [] _ (startF N vs ws) H _ I hq) (fun u s' hs => ?_) fun e s' hs => hs
  obtain ⟨v, H', J, rv, q⟩ := hs
  exact ⟨v, H', J.os, J.bare, J.base, J.hok, rv, q⟩
end
section
variable {X : Cx} {pins : List (Addr × Obj)} {σ : L2.St} {H : Hp} {s : Shared} {Q : VK} {us : List Value} {vs : List V} {ws : List (Option V)} {ps fr : List Str} {F : NF} {e0 : Expr} {f : Addr} {k j : Nat} {sp : List (Option V) → Sp}
theorem run_lam (Fn : LOk X.prog X.w X.K X.mg X.base k f F e0 ps fr sp) (hr : Room j X.A) (hk : k ≤ j) (I : Inv X pins σ H s) (hf : H f = some (LmO f F e0)) (hc : H F.c = some (CodeO F.c F.qual)) (C : Cel F fr ws H) (r : Vals vs us)
    (q : sp ws vs (remC F.cl H) (fun v H2 => (∀ b ∈ adr F.cl, H2 b = none) → Q v (backC F.cl H H2)) C8.E0) : wpAny (model X.prog X.w) X.A (call (.ref f) us) (EP X pins σ Q) X.xe s := by
  have e0 := I.env0
  have out : ∀ {a : Addr} {o : HO}, H a = some o → (∀ ob x, o ≠ .frz ob x) → a ∉ adr F.cl := fun e n z => by
    obtain ⟨x, ob, e'⟩ := C.all _ z
    rw [e] at e'
    exact n _ _ (Option.some.inj e')
  have rn : ∀ b, H b = none → remC F.cl H b = none := fun b e => by
    by_cases hb : b ∈ adr F.cl
    · exact rem_in hb
    · rw [rem_out hb]; exact e
  have e1 : Env0 X.prog X.w X.K X.mg X.base X.A X.stack s (remC F.cl H) := ⟨e0.frames, e0.mod, fun b o e => ⟨(e0.bs b o e).1, rn b (e0.bs b o e).2⟩, e0.bsz, e0.funs, fun b hb => rn b (e0.frf b hb), hok_rem e0.hok C.all, e0.bare⟩
  have nf : ∀ b ∈ adr F.cl, b ∉ frs X.stack := fun b hb z => by
    obtain ⟨x, o, e'⟩ := C.all b hb
    rw [e0.frf b z] at e'
    cases e'
  refine wpAny_call (codeAny_mono (Fn.run X.A X.stack s (remC F.cl H) us vs ws _ C8.E0 (hr.mono hk) e1 (by rw [rem_out (out hf (fun _ _ z => by unfold LmO at z; cases z))]; exact hf) (by rw [rem_out (out hc (fun _ _ z => by unfold CodeO at z; cases z))]; exact hc) (C.at e0.hok) r q) fun r s' hq => ?_)
  cases r with
  | error e => exact False.elim hq
  | ok fl =>
    cases fl with
    | ret u => exact I.after (ce_back e0.hok C.all nf hq)
    | next => exact False.elim hq
    | brk => exact False.elim hq
    | cont => exact False.elim hq
theorem lmAt_of {f : Addr} {F : NF} {e : Expr} (I : Inv X pins σ H s) (k : H f = some (LmO f F e)) : PySem.W.FnAt f s.heap := by
  obtain ⟨pm, ctv, ho⟩ := lmO_at I.hok k
  exact ⟨_, _, _, _, ho⟩
/-- f(..), f a name that holds a lambda made elsewhere -/
def tCallL (X : Cx) (j : Nat) (i : Nat) (t : TA) : TE := fun σ H Q => ∃ (f : Addr) (F : NF) (e : Expr) (ps fr : List Str) (ws : List (Option V)) (sp : List (Option V) → Sp) (k : Nat), σ[i]? = some (some (.ref f)) ∧ H f = some (LmO f F e) ∧ k ≤ j ∧ LOk X.prog X.w X.K X.mg X.base k f F e ps fr sp ∧
  t σ H fun vs H1 => H1 f = some (LmO f F e) ∧ H1 F.c = some (CodeO F.c F.qual) ∧ Cel F fr ws H1 ∧ CloC sp ws vs F H1 Q
theorem pe_callL {i : Nat} {x : Str} {t : TA} {e : Expr} {es : List Expr} {p pos : Pos} (hr : Room j X.A) (hN : X.N[i]? = some x) (hv : Vis X.env.scope x) (ha : PA X (e :: es) t)
    (hd : (x == ("__debug__" : Str)) = false := by decide) (hcd : (x == ("__classdict__" : Str)) = false := by decide)
    (he : starEach (e :: es) X.env = (false, eval e X.env) :: starEach es X.env := by rfl) (hpl : (backTo pos (starEach es X.env)).any (·.1) = false := by rfl) :
    PE X (.Call (.Name x p) (e :: es) [] pos) (tCallL X j i t) := by
  refine ⟨fun pins s σ H Q I h => ?_⟩
  obtain ⟨f, F, e2, ps, fr, ws, sp, k, hs, hf, hk, Fn, ht⟩ := h
  refine wpAny_Call_Name_kw (thn ((pe_var (pos := p) hN hv hd hcd).run pins s σ H (fun v H1 => v = .ref f ∧ H1 = H) I ⟨.ref f, hs, rfl, rfl⟩) fun u s1 ⟨v, H1, I1, r1, q1⟩ => ?_)
  obtain ⟨ev, eH⟩ := q1
  subst ev
  rw [eH] at I1
  obtain rfl : u = Value.ref f := r1
  refine PySem.W.callWith_F (first := []) (lmAt_of I1 hf) (thn (ha.run pos pins s1 σ H _ I1 ht) fun us s2 ⟨vs, H2, I2, r, h1, h2, C, q⟩ => ⟨lmAt_of I2 h1, ?_⟩) he hpl
  show wpAny _ _ (call (.ref f) us) _ _ _
  exact run_lam Fn hr hk I2 h1 h2 C r q
end
end Lm
namespace Lm
open PySem PySem.Spec PyProof.Rows L2 LamX NdefX Clo
section
variable {X : Cx} {pins : List (Addr × Obj)} {σ : L2.St} {H : Hp} {s : Shared}
/-- a lambda just made is known from now on -/
theorem inv_lm {F : NF} {e0 : Expr} {t' : Nat} {pm ctv : Value} (I : Inv X pins σ H s) :
    Inv X pins σ (upd H s.heap.objs.size (LmO s.heap.objs.size F e0)) { s with heap := s.heap.push (PySem.W.kla_obj F.name F.qual F.params e0 F.scope F.cl pm F.c ctv), toks := t' } := by
  refine I.laid (a := s.heap.objs.size) (fun b u e => Heap.get?_push_of_some _ e) (Nat.le_refl _) ?_
  have e : (s.heap.push (PySem.W.kla_obj F.name F.qual F.params e0 F.scope F.cl pm F.c ctv)).get? s.heap.objs.size = some (PySem.W.kla_obj F.name F.qual F.params e0 F.scope F.cl pm F.c ctv) := Heap.get?_push_size _ rfl
  exact ⟨⟨pm, ctv, e⟩, ⟨_, e⟩, fun h1 h2 ⟨p, t, z⟩ st => ⟨p, t, st _ z⟩⟩
abbrev lamF (X : Cx) (params : Arguments) (scope : Scope) (c' : Addr) : NF := ⟨"<lambda>", X.env.qual ++ "<lambda>", params, [], scope, cloFrom X.env.cells scope.names [], c'⟩
theorem lam_made {T : List NTab} {nm : Nat → Nat → Str} {c P : Addr} {params : Arguments} {body : Expr} {scope : Scope} {pos : Pos} {E : Value → Shared → Prop} {Q : Value → Shared → Prop} (I : Inv X pins σ H s) (TB : TabB X.base X.mg c P) (hcode : X.env.code = .ref c)
    (hm : (P, nm) ∈ T) (hn : nm pos.line pos.col = X.env.qual ++ "<lambda>") (hu : ∀ p ∈ T, p.1 = P → p.2 = nm) (hT : TabsN T H) (hdef : defaultsOf params X.env = ([], [])) (hfree : ∀ y ∈ scope.names, y.2 = .free → ∃ c, X.env.cells.lookup y.1 = some c)
    (h : ∀ (f c' : Addr) (H1 : Hp) (s' : Shared), Inv X pins σ H1 s' → ExtN H H1 → (∀ b, H1 b = Option.none → H b = Option.none) → TabsN T H1 → H f = none → H1 f = some (LmO f (lamF X params scope c') body) → H1 c' = some (CodeO c' (X.env.qual ++ "<lambda>")) → Q (.ref f) s') :
    wpAny (model X.prog X.w) X.A (eval (.Lambda params body scope pos) X.env) Q E s := by
  obtain ⟨ps, hP, ht, ha⟩ := (show TabN H P nm from hT _ hm)
  refine PySem.W.kla_eval hdef ?_
  have bP : s.heap.BuiltinsAt X.mg P := TB.bm.keeps I.bk
  have hP' : s.heap.get? P = some { cls := .none, data := .fields ps } := I.hok P _ hP
  cases hc : codeAmong pos ps.toList with
  | none =>
    refine PySem.W.kla_makeFunction (mg := X.mg) (c := c) (P := P) (ps := ps) (closure_ok hfree) I.ok.glob (I.mod.glob.keeps I.bk) hcode (TB.code.keeps I.bk) hP' ht hc TB.gP bP fun c' ctv h' tk hx hge hlt hrec htb => ?_
    obtain ⟨c2, oc, vs, t, e2, hoc, hd, hv⟩ := hrec
    cases e2
    have nC : H c' = none := I.hok.fresh hge
    have I1 := inv_table (t' := tk) (more := #[rawInt pos.line, rawInt pos.col, .ref c']) (h' := h') I hP (fun b o hb e => hx b o hb e) htb hge ⟨oc, vs, t, hoc, hd, hv⟩
    have hE : ExtN H (upd (upd H P (.tbl (ps ++ #[rawInt pos.line, rawInt pos.col, .ref c']))) c' (CodeO c' (X.env.qual ++ "<lambda>"))) := fun b o e n => by
      rw [upd_ne (ne_of_none e nC), upd_ne (fun z => n ps (Option.some.inj (e.symm.trans (by rw [z]; exact hP))))]
      exact e
    have eL : (ps ++ #[rawInt pos.line, rawInt pos.col, .ref c']).toList = ps.toList ++ [rawInt pos.line, rawInt pos.col, .ref c'] := by simp
    have T1 : TabsN T (upd (upd H P (.tbl (ps ++ #[rawInt pos.line, rawInt pos.col, .ref c']))) c' (CodeO c' (X.env.qual ++ "<lambda>"))) := fun p hp => by
      by_cases hb : p.1 = P
      · rw [hu p hp hb, hb]
        refine ⟨_, by rw [upd_ne (ne_of_none hP nC), upd_same], by rw [eL]; exact PySem.TriplesOk_snoc _ _ _ _ ht, fun p' cv hcv => ?_⟩
        rw [eL] at hcv
        rcases among_app2 _ ht hcv with z | ⟨z, z1, z2⟩
        · obtain ⟨c0, e1, e2⟩ := ha p' cv z
          exact ⟨c0, e1, hE _ _ e2 codeO_ne⟩
        · refine ⟨c', z, ?_⟩
          rw [← z1, ← z2, hn]
          exact upd_same
      · obtain ⟨ps', a1, a2, a3⟩ := hT p hp
        refine ⟨ps', by rw [upd_ne (ne_of_none a1 nC), upd_ne hb]; exact a1, a2, fun p' cv hcv => ?_⟩
        obtain ⟨c0, e1, e2⟩ := a3 p' cv hcv
        exact ⟨c0, e1, hE _ _ e2 codeO_ne⟩
    have nF := I1.hok.fresh (Nat.le_refl _)
    have I2 := inv_lm (F := lamF X params scope c') (e0 := body) (t' := tk) (pm := (X.mg "__name__").getD .none) (ctv := ctv) I1
    refine h h'.objs.size c' _ _ I2 (fun b o e n => ?_) (fun b e => upd_none (upd_none (upd_none e))) (T1.ext fun b o e => ?_) (I.hok.fresh (Nat.le_trans hge (Nat.le_of_lt hlt))) upd_same ?_
    · have e1 := hE b o e n
      exact (upd_ne (ne_of_none e1 nF)).trans e1
    · exact (upd_ne (ne_of_none e nF)).trans e
    · exact (upd_ne (Nat.ne_of_lt hlt)).trans upd_same
  | some cv =>
    obtain ⟨c', e, hco⟩ := ha pos cv hc
    subst e
    rw [hn] at hco
    refine PySem.W.kla_makeFunctionHit (mg := X.mg) (c := c) (P := P) (ps := ps) (closure_ok hfree) I.ok.glob (I.mod.glob.keeps I.bk) hcode (TB.code.keeps I.bk) hP' ht hc bP fun ctv h' tk hx hsz => ?_
    have I1 : Inv X pins σ H { s with heap := h', toks := tk } := I.kept hx
    have nF : H h'.objs.size = none := I1.hok.fresh (Nat.le_refl _)
    have I2 := inv_lm (F := lamF X params scope c') (e0 := body) (t' := tk) (pm := (X.mg "__name__").getD .none) (ctv := ctv) I1
    refine h h'.objs.size c' _ _ I2 (fun b o e n => ?_) (fun b e => upd_none e) (hT.ext fun b o e => ?_) nF upd_same ?_
    · exact (upd_ne (ne_of_none e nF)).trans e
    · exact (upd_ne (ne_of_none e nF)).trans e
    · exact (upd_ne (ne_of_none hco nF)).trans hco
/-- lambda params: body, as a value -/
def tLamM (X : Cx) (T : List NTab) (params : Arguments) (body : Expr) (scope : Scope) : TE := fun _ H Q => TabsN T H ∧ ∀ (f c' : Addr) (H1 : Hp), ExtN H H1 → (∀ b, H1 b = Option.none → H b = Option.none) → TabsN T H1 → H f = none → H1 f = some (LmO f (lamF X params scope c') body) → H1 c' = some (CodeO c' (X.env.qual ++ "<lambda>")) → Q (.ref f) H1
end
section
variable {X : Cx}
theorem pe_lamM {T : List NTab} {nm : Nat → Nat → Str} {c P : Addr} {params : Arguments} {body : Expr} {scope : Scope} {pos : Pos} (TB : TabB X.base X.mg c P) (hcode : X.env.code = .ref c) (hm : (P, nm) ∈ T) (hn : nm pos.line pos.col = X.env.qual ++ "<lambda>") (hu : ∀ p ∈ T, p.1 = P → p.2 = nm)
    (hdef : defaultsOf params X.env = ([], [])) (hfree : ∀ y ∈ scope.names, y.2 = .free → X.env.scope.names.lookup y.1 = some .cell ∨ X.env.scope.names.lookup y.1 = some .free) :
    PE X (.Lambda params body scope pos) (tLamM X T params body scope) := by
  refine ⟨fun pins s σ H Q I h => ?_⟩
  obtain ⟨hT, h⟩ := h
  have hfr : ∀ y ∈ scope.names, y.2 = .free → ∃ c, X.env.cells.lookup y.1 = some c := fun y hy e => (hfree y hy e).elim (fun z => I.ok.has _ (.inl z)) fun z => I.ok.has _ (.inr z)
  exact lam_made I TB hcode hm hn hu hT hdef hfr fun f c' H1 s' I1 eN nn T1 f0 f1 c1 => ⟨.ref f, H1, I1, rfl, h f c' H1 eN nn T1 f0 f1 c1⟩
end
end Lm

/-! The order of a search by breadth, and its image in a quotient (own mathematics, for k24 and k41). -/
namespace Bq
section
variable {α : Type} [DecidableEq α]
/-- x at the end, if it is new -/
def ad (acc : List α) (x : α) : List α := if x ∈ acc then acc else acc ++ [x]
def add (acc l : List α) : List α := l.foldl ad acc
theorem add_nil (acc : List α) : add acc [] = acc := rfl
theorem add_cons (acc : List α) (x : α) (l : List α) : add acc (x :: l) = add (ad acc x) l := rfl
theorem add_app (acc l m : List α) : add acc (l ++ m) = add (add acc l) m := List.foldl_append
theorem ad_pre (acc : List α) (x : α) : ∃ r, ad acc x = acc ++ r := by
  unfold ad
  split
  · exact ⟨[], by simp⟩
  · exact ⟨[x], rfl⟩
theorem add_pre : ∀ (l acc : List α), ∃ r, add acc l = acc ++ r
  | [], acc => ⟨[], by simp [add_nil]⟩
  | x :: l, acc => by
    obtain ⟨r, hr⟩ := ad_pre acc x
    obtain ⟨r2, hr2⟩ := add_pre l (ad acc x)
    exact ⟨r ++ r2, by rw [add_cons, hr2, hr, List.append_assoc]⟩
theorem mem_ad {acc : List α} {x y : α} : y ∈ ad acc x ↔ y ∈ acc ∨ y = x := by
  unfold ad
  split
  · rename_i h
    exact ⟨.inl, fun k => k.elim id (fun e => e ▸ h)⟩
  · simp
theorem mem_add : ∀ {l acc : List α} {y : α}, y ∈ add acc l ↔ y ∈ acc ∨ y ∈ l
  | [], acc, y => by simp [add_nil]
  | x :: l, acc, y => by
    rw [add_cons, mem_add, mem_ad, List.mem_cons, or_assoc]
theorem nodup_ad {acc : List α} {x : α} (h : acc.Nodup) : (ad acc x).Nodup := by
  unfold ad
  split
  · exact h
  · rename_i k
    rw [List.nodup_append]
    exact ⟨h, by simp, fun a ha b hb e => k (by rw [← List.mem_singleton.mp hb, ← e]; exact ha)⟩
theorem nodup_add : ∀ {l acc : List α}, acc.Nodup → (add acc l).Nodup
  | [], _, h => h
  | x :: l, acc, h => nodup_add (l := l) (nodup_ad h)
/-- what is there already adds nothing -/
theorem add_old : ∀ {l acc : List α}, (∀ x ∈ l, x ∈ acc) → add acc l = acc
  | [], _, _ => rfl
  | x :: l, acc, h => by
    have e : ad acc x = acc := if_pos (h x List.mem_cons_self)
    rw [add_cons, e]
    exact add_old fun y hy => h y (List.mem_cons_of_mem _ hy)
/-- the rows of the first k -/
def Ak (s : α) (r : α → List α) (N : List α) (k : Nat) : List α := add [s] ((N.take k).map r).flatten
theorem ak_zero (s : α) (r : α → List α) (N : List α) : Ak s r N 0 = [s] := rfl
theorem ak_succ {s : α} {r : α → List α} {N : List α} {k : Nat} {x : α} (h : N[k]? = some x) : Ak s r N (k + 1) = add (Ak s r N k) (r x) := by
  unfold Ak
  have e : N.take (k + 1) = N.take k ++ [x] := by rw [List.take_add_one, h]; rfl
  rw [e, List.map_append, List.flatten_append, add_app]
  show add _ (r x ++ []) = _
  rw [List.append_nil]
/-- the order of a search: all rows are in, and each stands in the row of an earlier one -/
structure Ord (s : α) (r : α → List α) (N : List α) : Prop where
  all : Ak s r N N.length = N
  ear : ∀ k, k < N.length → k < (Ak s r N k).length
theorem ak_pre {s : α} {r : α → List α} {N : List α} (h : Ord s r N) (k : Nat) : ∃ t, N = Ak s r N k ++ t := by
  have e : N = N.take k ++ N.drop k := (List.take_append_drop k N).symm
  have : Ak s r N N.length = add (Ak s r N k) ((N.drop k).map r).flatten := by
    unfold Ak
    rw [← add_app, ← List.flatten_append, ← List.map_append, List.take_append_drop, List.take_length]
  obtain ⟨t, ht⟩ := add_pre ((N.drop k).map r).flatten (Ak s r N k)
  exact ⟨t, by rw [← ht, ← this, h.all]⟩
theorem ak_get {s : α} {r : α → List α} {N : List α} (h : Ord s r N) {k : Nat} (hk : k < N.length) : N[k]? = (Ak s r N k)[k]? := by
  obtain ⟨t, ht⟩ := ak_pre h k
  have e : N[k]? = (Ak s r N k ++ t)[k]? := by rw [← ht]
  rw [e, List.getElem?_append_left (h.ear k hk)]
/-- there is one order only -/
theorem ord_uniq {s : α} {r : α → List α} {N M : List α} (h : Ord s r N) (g : Ord s r M) : N = M := by
  have key : ∀ k, k ≤ N.length → k ≤ M.length → Ak s r N k = Ak s r M k := by
    intro k
    induction k with
    | zero => intro _ _; rfl
    | succ k ih =>
      intro hN hM
      have e := ih (Nat.le_of_succ_le hN) (Nat.le_of_succ_le hM)
      have a := ak_get h (k := k) (by omega)
      have b := ak_get g (k := k) (by omega)
      rw [e, ← b] at a
      have x := List.getElem?_eq_getElem (l := M) (i := k) (by omega)
      rw [ak_succ (a.trans x), ak_succ x, e]
  rcases Nat.lt_trichotomy N.length M.length with c | c | c
  · have := g.ear _ c
    rw [← key _ (Nat.le_refl _) (Nat.le_of_lt c), h.all] at this
    omega
  · have := key N.length (Nat.le_refl _) (by omega)
    rw [h.all, c, g.all] at this
    exact this
  · have := h.ear _ c
    rw [key _ (Nat.le_of_lt c) (Nat.le_refl _), g.all] at this
    omega
/-- a prefix, by the first half alone -/
theorem ak_pre0 {s : α} {r : α → List α} {N : List α} (h : Ak s r N N.length = N) (k : Nat) : ∃ t, N = Ak s r N k ++ t := by
  have : Ak s r N N.length = add (Ak s r N k) ((N.drop k).map r).flatten := by
    unfold Ak
    rw [← add_app, ← List.flatten_append, ← List.map_append, List.take_append_drop, List.take_length]
  obtain ⟨t, ht⟩ := add_pre ((N.drop k).map r).flatten (Ak s r N k)
  exact ⟨t, by rw [← ht, ← this, h]⟩
variable {β : Type} [DecidableEq β]
theorem map_ad (c : α → β) (acc : List α) (x : α) : add [] ((ad acc x).map c) = ad (add [] (acc.map c)) (c x) := by
  unfold ad
  by_cases h : x ∈ acc
  · rw [if_pos h, if_pos (mem_add.mpr (.inr (List.mem_map.mpr ⟨x, h, rfl⟩)))]
  · rw [if_neg h, List.map_append, add_app]
    rfl
theorem map_add (c : α → β) : ∀ (l acc : List α), add [] ((add acc l).map c) = add (add [] (acc.map c)) (l.map c)
  | [], _ => rfl
  | x :: l, acc => by
    rw [add_cons, map_add c l, map_ad, List.map_cons, add_cons]
theorem add_dup (q : β → List β) : ∀ (l D acc : List β), (∀ b ∈ D, ∀ y ∈ q b, y ∈ acc) → add acc (l.map q).flatten = add acc (((add D l).drop D.length).map q).flatten
  | [], D, acc, _ => by rw [add_nil, List.drop_length]
  | b :: l, D, acc, h => by
    rw [List.map_cons, List.flatten_cons, add_app]
    by_cases hb : b ∈ D
    · rw [add_old (h b hb), add_dup q l D acc h, add_cons, show ad D b = D from if_pos hb]
    · have e : ad D b = D ++ [b] := if_neg hb
      obtain ⟨t, ht⟩ := add_pre l (D ++ [b])
      rw [add_dup q l (D ++ [b]) (add acc (q b)) (fun x hx y hy => ?_), add_cons, e, ht]
      · rw [List.drop_left, List.append_assoc, List.drop_left]
        show _ = add acc (q b ++ (t.map q).flatten)
        rw [add_app]
      · rcases List.mem_append.mp hx with hx | hx
        · exact mem_add.mpr (.inl (h x hx y hy))
        · rw [List.mem_singleton.mp hx] at hy
          exact mem_add.mpr (.inr hy)
theorem len_ad (acc : List α) (x : α) : (ad acc x).length ≤ acc.length + 1 := by
  unfold ad
  split
  · exact Nat.le_succ _
  · simp
/-- the places of the images, by the place where they stand first -/
theorem first_at (c : α → β) (N : List α) (k : Nat) : ∀ n, n ≤ N.length → k < (add [] ((N.take n).map c)).length → ∃ i, i < n ∧ (add [] ((N.take i).map c)).length ≤ k ∧ k < (add [] ((N.take (i + 1)).map c)).length
  | 0, _, h => by
    rw [List.take_zero] at h
    exact absurd h (Nat.not_lt_zero _)
  | n + 1, hn, h => by
    rcases Nat.lt_or_ge k (add [] ((N.take n).map c)).length with z | z
    · obtain ⟨i, a, b⟩ := first_at c N k n (Nat.le_of_succ_le hn) z
      exact ⟨i, Nat.lt_succ_of_lt a, b⟩
    · exact ⟨n, Nat.lt_succ_self n, z, h⟩
/-- THE IMAGE of an order in a quotient is the quotient's order -/
theorem ord_map {s : α} {r : α → List α} {N : List α} {c : α → β} {q : β → List β} (h : Ord s r N) (hq : ∀ x ∈ N, q (c x) = (r x).map c) : Ord (c s) q (add [] (N.map c)) := by
  generalize hM : add [] (N.map c) = M
  have hF : add [c s] (M.map q).flatten = M := by
    have e1 : M = add [c s] (((N.map r).flatten).map c) := by
      have := map_add c (N.map r).flatten [s]
      have e : add [s] (N.map r).flatten = N := by
        have := h.all
        unfold Ak at this
        rwa [List.take_length] at this
      rw [e, hM] at this
      exact this
    have e2 : ((N.map r).flatten).map c = ((N.map c).map q).flatten := by
      rw [List.map_flatten, List.map_map, List.map_map]
      congr 1
      exact List.map_congr_left fun x hx => (hq x hx).symm
    have e3 := add_dup q (N.map c) [] [c s] (fun b hb => by cases hb)
    rw [List.length_nil, List.drop_zero, hM] at e3
    rw [← e3, ← e2, ← e1]
  have hA : Ak (c s) q M M.length = M := by
    unfold Ak
    rw [List.take_length]
    exact hF
  refine ⟨hA, fun k hk => ?_⟩
  have nd : M.Nodup := by rw [← hM]; exact nodup_add List.nodup_nil
  obtain ⟨i, i1, i2, i3⟩ := first_at c N k N.length (Nat.le_refl _) (by rw [List.take_length, hM]; exact hk)
  have hx := List.getElem?_eq_getElem i1
  generalize N[i] = x at hx
  have e : N.take (i + 1) = N.take i ++ [x] := by rw [List.take_add_one, hx]; rfl
  have ep : add [] ((N.take (i + 1)).map c) = ad (add [] ((N.take i).map c)) (c x) := by
    rw [e, List.map_append, add_app]
    rfl
  -- the images so far are the first k
  obtain ⟨t, ht⟩ : ∃ t, M = add [] ((N.take (i + 1)).map c) ++ t := by
    have : M = add (add [] ((N.take (i + 1)).map c)) ((N.drop (i + 1)).map c) := by
      rw [← add_app, ← List.map_append, List.take_append_drop, hM]
    obtain ⟨t, ht⟩ := add_pre ((N.drop (i + 1)).map c) (add [] ((N.take (i + 1)).map c))
    exact ⟨t, by rw [← ht]; exact this⟩
  generalize hP : add [] ((N.take i).map c) = P at i2 ep
  have hl := len_ad P (c x)
  rw [← ep] at hl
  have hPk : P.length = k := by omega
  have hn : c x ∉ P := fun z => by
    have : ad P (c x) = P := if_pos z
    rw [ep, this] at i3
    omega
  have eP : ad P (c x) = P ++ [c x] := if_neg hn
  rw [ep, eP] at ht
  have tk : M.take k = P := by rw [ht, List.append_assoc, ← hPk, List.take_left]
  have mk : M[k]? = some (c x) := by
    rw [ht, List.append_assoc, ← hPk, List.getElem?_append_right (Nat.le_refl _)]
    simp
  -- it stands in the row of an earlier one
  have hin : c x ∈ Ak (c s) q M k := by
    have hxN : x ∈ Ak s r N i := by
      have := ak_get h i1
      rw [hx] at this
      exact List.mem_of_getElem? this.symm
    unfold Ak at hxN ⊢
    rw [mem_add] at hxN ⊢
    rcases hxN with z | z
    · rw [List.mem_singleton.mp z]
      exact .inl (List.mem_singleton.mpr rfl)
    · obtain ⟨l, hl, hxl⟩ := List.mem_flatten.mp z
      obtain ⟨y, hy, rfl⟩ := List.mem_map.mp hl
      refine .inr (List.mem_flatten.mpr ⟨q (c y), List.mem_map.mpr ⟨c y, ?_, rfl⟩, ?_⟩)
      · rw [tk, ← hP]
        exact mem_add.mpr (.inr (List.mem_map.mpr ⟨y, hy, rfl⟩))
      · rw [hq y (List.mem_of_mem_take hy)]
        exact List.mem_map.mpr ⟨x, hxl, rfl⟩
  obtain ⟨u, hu⟩ := ak_pre0 hA k
  rcases Nat.lt_or_ge k (Ak (c s) q M k).length with z | z
  · exact z
  · exfalso
    obtain ⟨j, hj⟩ := List.mem_iff_getElem?.mp hin
    have hjl := (List.getElem?_eq_some_iff.mp hj).1
    have mj : M[j]? = some (c x) := by
      have e : M[j]? = (Ak (c s) q M k ++ u)[j]? := by rw [← hu]
      rw [e, List.getElem?_append_left hjl, hj]
    have hjM := (List.getElem?_eq_some_iff.mp mj).1
    have := (List.pairwise_iff_getElem.mp nd) j k hjM hk (by omega)
    rw [(List.getElem?_eq_some_iff.mp mj).2, (List.getElem?_eq_some_iff.mp mk).2] at this
    exact this rfl
end
end Bq
/-! Numbers in the order of first occurrence (own mathematics, for k24, k41 and every `numbered`). -/
namespace Bq
section
variable {α : Type} [DecidableEq α]
/-- the number of each value: its place among the values that differ -/
def num (xs : List α) : List Nat := xs.map fun x => (add [] xs).idxOf x
theorem get_idx {l : List α} {x : α} (h : x ∈ l) : l[l.idxOf x]? = some x := by
  have lt := List.idxOf_lt_length_iff.mpr h
  rw [List.getElem?_eq_getElem lt, List.getElem_idxOf]
theorem idx_inj {l : List α} {x y : α} (hx : x ∈ l) (hy : y ∈ l) (h : l.idxOf x = l.idxOf y) : x = y := by
  have a := get_idx hx
  have b := get_idx hy
  rw [h, b] at a
  exact (Option.some.inj a).symm
theorem num_eq {xs : List α} {i j : Nat} {x y : α} (hi : xs[i]? = some x) (hj : xs[j]? = some y) : (num xs)[i]? = (num xs)[j]? ↔ x = y := by
  unfold num
  rw [List.getElem?_map, List.getElem?_map, hi, hj]
  have mi : x ∈ add [] xs := mem_add.mpr (.inr (List.mem_of_getElem? hi))
  have mj : y ∈ add [] xs := mem_add.mpr (.inr (List.mem_of_getElem? hj))
  exact ⟨fun h => idx_inj mi mj (Option.some.inj h), fun h => by rw [h]⟩
/-- a number that isn't new is less than what there was -/
theorem num_lt {xs : List α} {x : α} (h : x ∈ xs) : (add [] xs).idxOf x < (add [] xs).length := List.idxOf_lt_length_iff.mpr (mem_add.mpr (.inr h))
/-- the loop: what is there keeps its number -/
theorem idx_pre {l t : List α} {x : α} (h : x ∈ l) : (l ++ t).idxOf x = l.idxOf x := by
  rw [List.idxOf_append, if_pos h]
theorem idx_new {l : List α} {x : α} (h : x ∉ l) : (l ++ [x]).idxOf x = l.length := by
  rw [List.idxOf_append, if_neg h]
  simp
/-- every number below the count of the values occurs -/
theorem num_all {xs : List α} {k : Nat} (h : k < (add [] xs).length) : ∃ i : Nat, (num xs)[i]? = some k := by
  have nd : (add [] xs).Nodup := nodup_add List.nodup_nil
  have hm : (add [] xs)[k] ∈ xs := (mem_add.mp (List.getElem_mem h)).elim (fun z => by cases z) id
  obtain ⟨i, hi⟩ := List.mem_iff_getElem?.mp hm
  refine ⟨i, ?_⟩
  unfold num
  rw [List.getElem?_map, hi]
  have e := get_idx (List.getElem_mem h)
  have e2 := List.getElem?_eq_getElem h
  have lt := List.idxOf_lt_length_iff.mpr (List.getElem_mem h)
  show some _ = some k
  congr 1
  rcases Nat.lt_trichotomy ((add [] xs).idxOf (add [] xs)[k]) k with c | c | c
  · have := (List.pairwise_iff_getElem.mp nd) _ k lt h c
    exact absurd (by rw [List.getElem?_eq_getElem lt] at e; exact Option.some.inj e) this
  · exact c
  · have := (List.pairwise_iff_getElem.mp nd) k _ h lt c
    exact absurd (by rw [List.getElem?_eq_getElem lt] at e; exact (Option.some.inj e).symm) this
end
end Bq
/-! Refinement of a partition (own mathematics, for k24 and k41): states below n, labels, moves by letters below l. -/
namespace Mo
section
variable {κ : Type} (lab : Nat → κ) (mv : Nat → Nat → Nat) (l : Nat)
/-- alike for k rounds -/
def Ek : Nat → Nat → Nat → Prop
  | 0, i, j => lab i = lab j
  | k + 1, i, j => Ek k i j ∧ ∀ a, a < l → Ek k (mv i a) (mv j a)
theorem ek_refl : ∀ k i, Ek lab mv l k i i
  | 0, _ => rfl
  | k + 1, i => ⟨ek_refl k i, fun a _ => ek_refl k (mv i a)⟩
theorem ek_symm : ∀ k {i j}, Ek lab mv l k i j → Ek lab mv l k j i
  | 0, _, _, h => Eq.symm h
  | k + 1, _, _, h => ⟨ek_symm k h.1, fun a ha => ek_symm k (h.2 a ha)⟩
theorem ek_trans : ∀ k {i j m}, Ek lab mv l k i j → Ek lab mv l k j m → Ek lab mv l k i m
  | 0, _, _, _, h, g => Eq.trans h g
  | k + 1, _, _, _, h, g => ⟨ek_trans k h.1 g.1, fun a ha => ek_trans k (h.2 a ha) (g.2 a ha)⟩
theorem ek_le {k m : Nat} (h : k ≤ m) {i j : Nat} (e : Ek lab mv l m i j) : Ek lab mv l k i j := by
  induction m with
  | zero => rw [Nat.le_zero.mp h]; exact e
  | succ m ih =>
    rcases Nat.lt_or_ge k (m + 1) with c | c
    · exact ih (by omega) e.1
    · rw [show k = m + 1 by omega]; exact e
/-- the k-th round changes nothing more, among the states below n -/
def Stb (n k : Nat) : Prop := ∀ i j, i < n → j < n → Ek lab mv l k i j → Ek lab mv l (k + 1) i j
variable {lab mv l}
theorem stb_all {n k : Nat} (hc : ∀ i a, i < n → a < l → mv i a < n) (h : Stb lab mv l n k) : ∀ m, k ≤ m → ∀ i j, i < n → j < n → Ek lab mv l k i j → Ek lab mv l m i j := by
  intro m
  induction m with
  | zero => intro hm i j _ _ e; rw [Nat.le_zero.mp hm] at e; exact e
  | succ m ih =>
    intro hm i j hi hj e
    rcases Nat.lt_or_ge k (m + 1) with c | c
    · have s := h i j hi hj e
      exact ⟨ih (by omega) i j hi hj e, fun a ha => ih (by omega) _ _ (hc i a hi ha) (hc j a hj ha) (s.2 a ha)⟩
    · rw [show k = m + 1 by omega] at e; exact e
/-- least of its class -/
def Lst (n k i : Nat) : Prop := i < n ∧ ∀ j, j < i → ¬ Ek lab mv l k j i
theorem lst_of (n k : Nat) : ∀ i, i < n → ∃ j, j ≤ i ∧ Lst (lab := lab) (mv := mv) (l := l) n k j ∧ Ek lab mv l k j i := by
  intro i
  induction i using Nat.strongRecOn with
  | ind i ih =>
    intro hi
    by_cases h : ∃ j, j < i ∧ Ek lab mv l k j i
    · obtain ⟨j, hj, e⟩ := h
      obtain ⟨j', a, b, c⟩ := ih j hj (by omega)
      exact ⟨j', by omega, b, ek_trans lab mv l k c e⟩
    · exact ⟨i, Nat.le_refl _, ⟨hi, fun j hj e => h ⟨j, hj, e⟩⟩, ek_refl lab mv l k i⟩
open Classical in
/-- the least of all classes -/
noncomputable def Ls (lab : Nat → κ) (mv : Nat → Nat → Nat) (l n k : Nat) : List Nat := (List.range n).filter fun i => decide (Lst (lab := lab) (mv := mv) (l := l) n k i)
open Classical in
theorem mem_ls {n k i : Nat} : i ∈ Ls lab mv l n k ↔ Lst (lab := lab) (mv := mv) (l := l) n k i := by
  unfold Ls
  rw [List.mem_filter, List.mem_range, decide_eq_true_iff]
  exact ⟨fun h => h.2, fun h => ⟨h.1, h⟩⟩
theorem sub_ls {n k i : Nat} (h : i ∈ Ls lab mv l n k) : i ∈ Ls lab mv l n (k + 1) := by
  rw [mem_ls] at h ⊢
  exact ⟨h.1, fun j hj e => h.2 j hj e.1⟩
theorem nd_ls (n k : Nat) : (Ls lab mv l n k).Nodup := List.Pairwise.filter _ List.nodup_range
theorem sub_len : ∀ {a b : List Nat}, a.Nodup → (∀ x ∈ a, x ∈ b) → a.length ≤ b.length
  | [], _, _, _ => Nat.zero_le _
  | x :: a, b, nd, h => by
    obtain ⟨n1, n2⟩ := List.nodup_cons.mp nd
    have hx := h x List.mem_cons_self
    have := sub_len (a := a) (b := b.erase x) n2 fun y hy => (List.mem_erase_of_ne (fun e : y = x => n1 (by rw [← e]; exact hy))).mpr (h y (List.mem_cons_of_mem _ hy))
    rw [List.length_erase_of_mem hx] at this
    have := List.length_pos_of_mem hx
    rw [List.length_cons]
    omega
theorem sub_eq {a b : List Nat} (nd : a.Nodup) (h : ∀ x ∈ a, x ∈ b) (hl : b.length ≤ a.length) : ∀ x ∈ b, x ∈ a := by
  intro x hx
  by_cases c : x ∈ a
  · exact c
  · exfalso
    have := sub_len (a := x :: a) (b := b) (List.nodup_cons.mpr ⟨c, nd⟩) fun y hy => (List.mem_cons.mp hy).elim (fun e => by rw [e]; exact hx) (h y)
    rw [List.length_cons] at this
    omega
/-- as many classes as before: nothing has changed -/
theorem stb_of {n k : Nat} (h : (Ls lab mv l n (k + 1)).length ≤ (Ls lab mv l n k).length) : Stb lab mv l n k := by
  intro i j hi hj e
  obtain ⟨i', _, a1, a2⟩ := lst_of (lab := lab) (mv := mv) (l := l) n (k + 1) i hi
  obtain ⟨j', _, b1, b2⟩ := lst_of (lab := lab) (mv := mv) (l := l) n (k + 1) j hj
  have sub := sub_eq (nd_ls n k) (fun x hx => sub_ls hx) h
  have a3 := mem_ls.mp (sub i' (mem_ls.mpr a1))
  have b3 := mem_ls.mp (sub j' (mem_ls.mpr b1))
  have ee : Ek lab mv l k i' j' := ek_trans lab mv l k a2.1 (ek_trans lab mv l k e (ek_symm lab mv l k b2.1))
  rcases Nat.lt_trichotomy i' j' with c | c | c
  · exact absurd ee (b3.2 i' c)
  · rw [c] at a2
    exact ek_trans lab mv l (k + 1) (ek_symm lab mv l (k + 1) a2) b2
  · exact absurd (ek_symm lab mv l k ee) (a3.2 j' c)
/-- after n rounds nothing changes -/
theorem stb_n (n : Nat) (hc : ∀ i a, i < n → a < l → mv i a < n) : Stb lab mv l n n := by
  have key : ∀ k, (∃ j, j < k ∧ Stb lab mv l n j) ∨ k ≤ (Ls lab mv l n k).length := by
    intro k
    induction k with
    | zero => exact .inr (Nat.zero_le _)
    | succ k ih =>
      rcases ih with ⟨j, a, b⟩ | h
      · exact .inl ⟨j, Nat.lt_succ_of_lt a, b⟩
      · rcases Nat.lt_or_ge (Ls lab mv l n k).length (Ls lab mv l n (k + 1)).length with c | c
        · exact .inr (by omega)
        · exact .inl ⟨k, Nat.lt_succ_self k, stb_of c⟩
  have up : ∀ j, j ≤ n → Stb lab mv l n j → Stb lab mv l n n := fun j hj s a b ha hb e => stb_all hc s (n + 1) (by omega) a b ha hb (ek_le lab mv l hj e)
  rcases key (n + 1) with ⟨j, a, b⟩ | h
  · exact up j (by omega) b
  · exfalso
    have : (Ls lab mv l n (n + 1)).length ≤ n := by
      have := sub_len (nd_ls (lab := lab) (mv := mv) (l := l) n (n + 1)) (b := List.range n) fun x hx => List.mem_range.mpr (mem_ls.mp hx).1
      rwa [List.length_range] at this
    omega
end
end Mo
/-! The program's refinement (numbers in the order of first occurrence) is the refinement of Moore.lean (own mathematics, for k24 and k41). -/
namespace Bq
open Mo
section
variable {α : Type} [DecidableEq α]
theorem num_len (xs : List α) : (num xs).length = xs.length := by unfold num; rw [List.length_map]
/-- as many values as places where one stands first -/
theorem add_count (xs : List α) : (add [] xs).length = ((List.range xs.length).filter fun i => decide (∀ j, j < i → xs[j]? ≠ xs[i]?)).length := by
  have gen : ∀ n, n ≤ xs.length → (add [] (xs.take n)).length = ((List.range n).filter fun i => decide (∀ j, j < i → xs[j]? ≠ xs[i]?)).length := by
    intro n
    induction n with
    | zero => intro _; rfl
    | succ n ih =>
      intro hn
      have hx := List.getElem?_eq_getElem (l := xs) (i := n) (by omega)
      have e : xs.take (n + 1) = xs.take n ++ [xs[n]] := by rw [List.take_add_one, hx]; rfl
      rw [e, add_app, List.range_succ, List.filter_append, List.length_append, ← ih (by omega)]
      show (ad (add [] (xs.take n)) xs[n]).length = _
      unfold ad
      by_cases c : xs[n] ∈ add [] (xs.take n)
      · rw [if_pos c]
        have : ¬ ∀ j, j < n → xs[j]? ≠ xs[n]? := fun h => by
          have hm : xs[n] ∈ xs.take n := (mem_add.mp c).elim (fun z => by cases z) id
          obtain ⟨j, hj⟩ := List.mem_iff_getElem?.mp hm
          have hjn : j < n := by
            have := (List.getElem?_eq_some_iff.mp hj).1
            rw [List.length_take] at this
            omega
          rw [List.getElem?_take_of_lt hjn] at hj
          exact h j hjn (hj.trans hx.symm)
        rw [List.filter_cons_of_neg (by rw [decide_eq_false this]; decide)]
        rfl
      · rw [if_neg c]
        have : ∀ j, j < n → xs[j]? ≠ xs[n]? := fun j hj h => by
          refine c (mem_add.mpr (.inr (List.mem_iff_getElem?.mpr ⟨j, ?_⟩)))
          rw [List.getElem?_take_of_lt hj, h, hx]
        rw [List.filter_cons_of_pos (by rw [decide_eq_true this]), List.length_append]
        rfl
  have := gen xs.length (Nat.le_refl _)
  rwa [List.take_length] at this
end
section
variable {κ : Type} [DecidableEq κ] (lab : Nat → κ) (mv : Nat → Nat → Nat) (l n : Nat)
/-- the classes' numbers after k rounds -/
def cl : Nat → List Nat
  | 0 => num ((List.range n).map lab)
  | k + 1 => num ((List.range n).map fun i => ((cl k).getD i 0, (List.range l).map fun a => (cl k).getD (mv i a) 0))
theorem cl_len : ∀ k, (cl lab mv l n k).length = n
  | 0 => by unfold cl; rw [num_len, List.length_map, List.length_range]
  | k + 1 => by unfold cl; rw [num_len, List.length_map, List.length_range]
theorem rng_get {β : Type} (g : Nat → β) {i : Nat} (h : i < n) : ((List.range n).map g)[i]? = some (g i) := by
  rw [List.getElem?_map, List.getElem?_range h]
  rfl
theorem num_get {β : Type} [DecidableEq β] (g : Nat → β) {i j : Nat} (hi : i < n) (hj : j < n) : (num ((List.range n).map g)).getD i 0 = (num ((List.range n).map g)).getD j 0 ↔ g i = g j := by
  have a := num_eq (rng_get n g hi) (rng_get n g hj)
  have li : i < (num ((List.range n).map g)).length := by rw [num_len, List.length_map, List.length_range]; exact hi
  have lj : j < (num ((List.range n).map g)).length := by rw [num_len, List.length_map, List.length_range]; exact hj
  rw [List.getD_eq_getElem?_getD, List.getD_eq_getElem?_getD, ← a, List.getElem?_eq_getElem li, List.getElem?_eq_getElem lj]
  exact ⟨fun h => congrArg some h, fun h => Option.some.inj h⟩
variable {lab mv l n}
/-- the numbers say who is alike for k rounds -/
theorem cl_ek (hc : ∀ i a, i < n → a < l → mv i a < n) : ∀ k i j, i < n → j < n → ((cl lab mv l n k).getD i 0 = (cl lab mv l n k).getD j 0 ↔ Ek lab mv l k i j)
  | 0, i, j, hi, hj => num_get n lab hi hj
  | k + 1, i, j, hi, hj => by
    have e := num_get n (fun i => ((cl lab mv l n k).getD i 0, (List.range l).map fun a => (cl lab mv l n k).getD (mv i a) 0)) hi hj
    refine e.trans ?_
    rw [Prod.mk.injEq]
    refine and_congr (cl_ek hc k i j hi hj) ?_
    constructor
    · intro h a ha
      have h1 := congrArg (·[a]?) h
      have h2 : ((List.range l).map fun a => (cl lab mv l n k).getD (mv i a) 0)[a]? = ((List.range l).map fun a => (cl lab mv l n k).getD (mv j a) 0)[a]? := h1
      rw [rng_get l _ ha, rng_get l _ ha] at h2
      exact (cl_ek hc k _ _ (hc i a hi ha) (hc j a hj ha)).mp (Option.some.inj h2)
    · intro h
      exact List.map_congr_left fun a ha => (cl_ek hc k _ _ (hc i a hi (List.mem_range.mp ha)) (hc j a hj (List.mem_range.mp ha))).mpr (h a (List.mem_range.mp ha))
/-- how many classes there are -/
theorem cl_count (hc : ∀ i a, i < n → a < l → mv i a < n) (k : Nat) {β : Type} [DecidableEq β] (g : Nat → β) (hg : cl lab mv l n k = num ((List.range n).map g)) : (add [] ((List.range n).map g)).length = (Ls lab mv l n k).length := by
  rw [add_count, List.length_map, List.length_range]
  unfold Ls
  congr 1
  refine List.filter_congr fun i hi => ?_
  have hi := List.mem_range.mp hi
  rw [decide_eq_decide]
  constructor
  · intro h
    refine ⟨hi, fun j hj e => h j hj ?_⟩
    have := (cl_ek hc k j i (by omega) hi).mpr e
    rw [hg] at this
    rw [rng_get n g (by omega), rng_get n g hi, (num_get n g (by omega) hi).mp this]
  · intro h j hj e
    refine h.2 j hj ((cl_ek hc k j i (by omega) hi).mp ?_)
    rw [rng_get n g (by omega), rng_get n g hi] at e
    rw [hg]
    exact (num_get n g (by omega) hi).mpr (Option.some.inj e)
end
end Bq
/-! The quotient of the reached part (own mathematics, for k24 and k41). -/
namespace Bq
open Mo
section
variable {α β : Type} [DecidableEq α] [DecidableEq β]
/-- a value's number: how many values stand before it first -/
theorem idx_take {xs : List α} {p : Nat} {x : α} (hp : xs[p]? = some x) (hn : ∀ j, j < p → xs[j]? ≠ some x) : (add [] xs).idxOf x = (add [] (xs.take p)).length := by
  have hnx : x ∉ add [] (xs.take p) := fun h => by
    have hm : x ∈ xs.take p := (mem_add.mp h).elim (fun z => by cases z) id
    obtain ⟨j, hj⟩ := List.mem_iff_getElem?.mp hm
    have hjp : j < p := by
      have := (List.getElem?_eq_some_iff.mp hj).1
      rw [List.length_take] at this
      omega
    rw [List.getElem?_take_of_lt hjp] at hj
    exact hn j hjp hj
  have e : xs.take (p + 1) = xs.take p ++ [x] := by rw [List.take_add_one, hp]; rfl
  have e2 : add [] (xs.take (p + 1)) = add [] (xs.take p) ++ [x] := by
    rw [e, add_app]
    exact if_neg hnx
  have e3 : add [] xs = add (add [] (xs.take (p + 1))) (xs.drop (p + 1)) := by rw [← add_app, List.take_append_drop]
  obtain ⟨t, ht⟩ := add_pre (xs.drop (p + 1)) (add [] (xs.take (p + 1)))
  rw [e3, ht, e2, idx_pre (by simp), idx_new hnx]
/-- the first place of a value -/
theorem first_place (xs : List α) : ∀ (i : Nat) (x : α), xs[i]? = some x → ∃ p : Nat, p ≤ i ∧ xs[p]? = some x ∧ ∀ j, j < p → xs[j]? ≠ some x := by
  intro i
  induction i using Nat.strongRecOn with
  | ind i ih =>
    intro x hi
    by_cases h : ∃ j, j < i ∧ xs[j]? = some x
    · obtain ⟨j, hj, e⟩ := h
      obtain ⟨p, a, b, c⟩ := ih j hj x e
      exact ⟨p, by omega, b, c⟩
    · exact ⟨i, Nat.le_refl _, hi, fun j hj e => h ⟨j, hj, e⟩⟩
/-- two lists whose values are equal at the same places have the same numbers -/
theorem num_congr {xs : List α} {ys : List β} (hl : xs.length = ys.length) (h : ∀ i j, i < xs.length → j < xs.length → (xs[i]? = xs[j]? ↔ ys[i]? = ys[j]?)) : num xs = num ys := by
  apply List.ext_getElem?
  intro i
  rcases Nat.lt_or_ge i xs.length with hi | hi
  · have hiy : i < ys.length := by omega
    unfold num
    rw [List.getElem?_map, List.getElem?_map, List.getElem?_eq_getElem hi, List.getElem?_eq_getElem hiy]
    show some _ = some _
    congr 1
    obtain ⟨p, p1, p2, p3⟩ := first_place xs i _ (List.getElem?_eq_getElem hi)
    have hp : p < xs.length := by omega
    have py : ys[p]? = some ys[i] := by
      rw [← List.getElem?_eq_getElem hiy]
      exact (h p i hp hi).mp (p2.trans (List.getElem?_eq_getElem hi).symm)
    have pn : ∀ j, j < p → ys[j]? ≠ some ys[i] := fun j hj e => by
      refine p3 j hj ?_
      rw [← List.getElem?_eq_getElem hiy] at e
      rw [← List.getElem?_eq_getElem hi]
      exact (h j i (by omega) hi).mpr e
    show (add [] xs).idxOf xs[i] = (add [] ys).idxOf ys[i]
    rw [idx_take p2 p3, idx_take py pn, add_count, add_count, List.length_take, List.length_take, Nat.min_eq_left (by omega), Nat.min_eq_left (by omega)]
    congr 1
    refine List.filter_congr fun k hk => ?_
    have hk := List.mem_range.mp hk
    rw [decide_eq_decide]
    refine forall_congr' fun j => forall_congr' fun hj => not_congr ?_
    rw [List.getElem?_take_of_lt (by omega), List.getElem?_take_of_lt hk, List.getElem?_take_of_lt (by omega), List.getElem?_take_of_lt hk]
    exact h j k (by omega) (by omega)
  · rw [List.getElem?_eq_none (by rw [num_len]; exact hi), List.getElem?_eq_none (by rw [num_len]; omega)]
end
section
variable {κ : Type} {lab : Nat → κ} {mv : Nat → Nat → Nat} {l : Nat} {N : List Nat}
/-- alike among the reached, by their places -/
theorem ek_place (hN : ∀ s a, s ∈ N → a < l → mv s a ∈ N) : ∀ k i j, i < N.length → j < N.length →
    (Ek (fun i => lab (N.getD i 0)) (fun i a => N.idxOf (mv (N.getD i 0) a)) l k i j ↔ Ek lab mv l k (N.getD i 0) (N.getD j 0))
  | 0, i, j, _, _ => Iff.rfl
  | k + 1, i, j, hi, hj => by
    have mem : ∀ {i}, i < N.length → N.getD i 0 ∈ N := fun {i} h => by
      rw [List.getD_eq_getElem?_getD, List.getElem?_eq_getElem h]
      exact List.getElem_mem h
    have back : ∀ {s}, s ∈ N → N.getD (N.idxOf s) 0 = s := fun {s} h => by
      rw [List.getD_eq_getElem?_getD, get_idx h]
      rfl
    refine and_congr (ek_place hN k i j hi hj) (forall_congr' fun a => forall_congr' fun ha => ?_)
    have m1 := hN _ a (mem hi) ha
    have m2 := hN _ a (mem hj) ha
    have e := ek_place hN k (N.idxOf (mv (N.getD i 0) a)) (N.idxOf (mv (N.getD j 0) a)) (List.idxOf_lt_length_iff.mpr m1) (List.idxOf_lt_length_iff.mpr m2)
    rw [back m1, back m2] at e
    exact e
/-- alike for good, among the n states -/
def Al (lab : Nat → κ) (mv : Nat → Nat → Nat) (l n i j : Nat) : Prop := Ek lab mv l n i j
theorem al_mv {n : Nat} (hc : ∀ i a, i < n → a < l → mv i a < n) {i j : Nat} (hi : i < n) (hj : j < n) (h : Al lab mv l n i j) {a : Nat} (ha : a < l) : Al lab mv l n (mv i a) (mv j a) :=
  (stb_n n hc i j hi hj h).2 a ha
/-- THE QUOTIENT: the classes in the order of the search are the least of the classes in the order of the quotient's search -/
theorem quot_order {n s : Nat} {f : Nat → Nat} {M : List Nat} (hc : ∀ i a, i < n → a < l → mv i a < n) (h : Ord s (fun x => (List.range l).map (mv x)) N) (hn : ∀ x ∈ N, x < n) (fp : ∀ i, i < n → f i < n ∧ Al lab mv l n (f i) i) (fe : ∀ i j, i < n → j < n → (f i = f j ↔ Al lab mv l n i j))
    (hM : Ord (f s) (fun b => ((List.range l).map (mv b)).map f) M) : M = add [] (N.map f) := by
  refine ord_uniq hM (ord_map h fun x hx => ?_)
  rw [List.map_map, List.map_map]
  refine List.map_congr_left fun a ha => ?_
  have ha := List.mem_range.mp ha
  have hxn := hn x hx
  obtain ⟨f1, f2⟩ := fp x hxn
  exact (fe _ _ (hc _ a f1 ha) (hc _ a hxn ha)).mpr (al_mv hc f1 hxn f2 ha)
/-- the numbers that the refinement ends with -/
theorem quot_num [DecidableEq κ] {n K : Nat} {f : Nat → Nat} (hc : ∀ i a, i < n → a < l → mv i a < n) (hN : ∀ s a, s ∈ N → a < l → mv s a ∈ N) (hn : ∀ x ∈ N, x < n) (fe : ∀ i j, i < n → j < n → (f i = f j ↔ Al lab mv l n i j))
    (hK : Stb (fun i => lab (N.getD i 0)) (fun i a => N.idxOf (mv (N.getD i 0) a)) l N.length K) {β : Type} [DecidableEq β] (g : Nat → β) (hg : cl (fun i => lab (N.getD i 0)) (fun i a => N.idxOf (mv (N.getD i 0) a)) l N.length K = num ((List.range N.length).map g)) :
    cl (fun i => lab (N.getD i 0)) (fun i a => N.idxOf (mv (N.getD i 0) a)) l N.length K = num (N.map f) := by
  have mem : ∀ {i}, i < N.length → N.getD i 0 ∈ N := fun {i} h => by
    rw [List.getD_eq_getElem?_getD, List.getElem?_eq_getElem h]
    exact List.getElem_mem h
  have hc' : ∀ i a, i < N.length → a < l → N.idxOf (mv (N.getD i 0) a) < N.length := fun i a hi ha => List.idxOf_lt_length_iff.mpr (hN _ a (mem hi) ha)
  rw [hg]
  refine num_congr (by rw [List.length_map, List.length_range, List.length_map]) fun i j hi hj => ?_
  rw [List.length_map, List.length_range] at hi hj
  rw [rng_get N.length g hi, rng_get N.length g hj, List.getElem?_map, List.getElem?_map, List.getElem?_eq_getElem hi, List.getElem?_eq_getElem hj]
  have e1 := cl_ek (lab := fun i => lab (N.getD i 0)) (mv := fun i a => N.idxOf (mv (N.getD i 0) a)) hc' K i j hi hj
  rw [hg] at e1
  have e0 : (num ((List.range N.length).map g)).getD i 0 = (num ((List.range N.length).map g)).getD j 0 ↔ g i = g j := num_get N.length g hi hj
  have e2 := e1.symm.trans e0
  have gi : ∀ {i} (h : i < N.length), N.getD i 0 = N[i] := fun {i} h => by rw [List.getD_eq_getElem?_getD, List.getElem?_eq_getElem h]; rfl
  have e3 : Ek (fun i => lab (N.getD i 0)) (fun i a => N.idxOf (mv (N.getD i 0) a)) l K i j ↔ Al lab mv l n (N.getD i 0) (N.getD j 0) := by
    constructor
    · intro h
      have := stb_all hc' hK (max K n) (Nat.le_max_left _ _) i j hi hj h
      exact ek_le lab mv l (Nat.le_max_right K n) ((ek_place hN (max K n) i j hi hj).mp this)
    · intro h
      have := stb_all hc (stb_n n hc) (max K n) (Nat.le_max_right _ _) _ _ (hn _ (mem hi)) (hn _ (mem hj)) h
      exact (ek_place hN K i j hi hj).mpr (ek_le lab mv l (Nat.le_max_left K n) this)
  have e4 := fe _ _ (hn _ (mem hi)) (hn _ (mem hj))
  rw [gi hi, gi hj] at e3 e4
  constructor
  · intro h
    show some (f N[i]) = some (f N[j])
    exact congrArg some (e4.mpr (e3.mp (e2.mpr (Option.some.inj h))))
  · intro h
    have h : f N[i] = f N[j] := Option.some.inj h
    exact congrArg some (e2.mp (e3.mpr (e4.mp h)))
end
end Bq

/-! The search by breadth as a function, and the quotient of the quotient (own mathematics, for k24 and k41). -/
namespace Bq
open Mo
section
variable {α : Type} [DecidableEq α]
/-- the nodes after k rows of a search by breadth -/
def GG (s : α) (r : α → List α) : Nat → List α
  | 0 => [s]
  | k + 1 => match (GG s r k)[k]? with
    | some x => add (GG s r k) (r x)
    | none => GG s r k
theorem gg_some {s : α} {r : α → List α} {k : Nat} {x : α} (h : (GG s r k)[k]? = some x) : GG s r (k + 1) = add (GG s r k) (r x) := by
  show (match (GG s r k)[k]? with | some x => add (GG s r k) (r x) | none => GG s r k) = _
  rw [h]
theorem gg_none {s : α} {r : α → List α} {k : Nat} (h : (GG s r k)[k]? = none) : GG s r (k + 1) = GG s r k := by
  show (match (GG s r k)[k]? with | some x => add (GG s r k) (r x) | none => GG s r k) = _
  rw [h]
theorem gg_pre (s : α) (r : α → List α) (k : Nat) : ∃ t, GG s r (k + 1) = GG s r k ++ t := by
  cases h : (GG s r k)[k]? with
  | none => exact ⟨[], by rw [gg_none h, List.append_nil]⟩
  | some x => rw [gg_some h]; exact add_pre _ _
theorem gg_pre_le (s : α) (r : α → List α) {k m : Nat} (h : k ≤ m) : ∃ t, GG s r m = GG s r k ++ t := by
  induction h with
  | refl => exact ⟨[], by rw [List.append_nil]⟩
  | step _ ih =>
    obtain ⟨t, ht⟩ := ih
    obtain ⟨u, hu⟩ := gg_pre s r _
    exact ⟨t ++ u, by rw [hu, ht, List.append_assoc]⟩
theorem gg_stop {s : α} {r : α → List α} {k : Nat} (h : (GG s r k).length ≤ k) {m : Nat} (hm : k ≤ m) : GG s r m = GG s r k := by
  induction hm with
  | refl => rfl
  | step hm ih =>
    rename_i m
    rw [gg_none (by rw [ih]; exact List.getElem?_eq_none (by have := hm; simp at this; omega)), ih]
theorem gg_nd (s : α) (r : α → List α) : ∀ k, (GG s r k).Nodup
  | 0 => by show [s].Nodup; simp
  | k + 1 => by
    cases h : (GG s r k)[k]? with
    | none => rw [gg_none h]; exact gg_nd s r k
    | some x => rw [gg_some h]; exact nodup_add (gg_nd s r k)
theorem gg_in {s : α} {r : α → List α} {U : α → Prop} (hs : U s) (hc : ∀ x, U x → ∀ t ∈ r x, U t) : ∀ k, ∀ x ∈ GG s r k, U x
  | 0, x, hx => by rw [List.mem_singleton.mp hx]; exact hs
  | k + 1, x, hx => by
    cases h : (GG s r k)[k]? with
    | none => rw [gg_none h] at hx; exact gg_in hs hc k x hx
    | some y =>
      rw [gg_some h] at hx
      rcases mem_add.mp hx with z | z
      · exact gg_in hs hc k x z
      · exact hc y (gg_in hs hc k y (List.mem_of_getElem? h)) x z
theorem gg_ord {s : α} {r : α → List α} {n : Nat} (h : (GG s r n).length ≤ n) : Ord s r (GG s r n) := by
  have ear : ∀ k, k < (GG s r n).length → k < (GG s r k).length := fun k hk => by
    rcases Nat.lt_or_ge k (GG s r k).length with z | z
    · exact z
    · have := gg_stop z (show k ≤ n by omega)
      rw [this] at hk
      omega
  have key : ∀ k, k ≤ (GG s r n).length → Ak s r (GG s r n) k = GG s r k := by
    intro k
    induction k with
    | zero => intro _; rfl
    | succ k ih =>
      intro hk
      have e := ih (by omega)
      have hl := ear k (by omega)
      have hx := List.getElem?_eq_getElem hl
      obtain ⟨t, ht⟩ := gg_pre_le s r (show k ≤ n by omega)
      have hx2 : (GG s r n)[k]? = some (GG s r k)[k] := by rw [ht, List.getElem?_append_left hl, hx]
      rw [ak_succ hx2, gg_some hx, e]
  refine ⟨?_, fun k hk => by rw [key k (Nat.le_of_lt hk)]; exact ear k hk⟩
  rw [key _ (Nat.le_refl _)]
  obtain ⟨t, ht⟩ := gg_pre_le s r h
  have hl : (GG s r (GG s r n).length).length ≤ (GG s r n).length := by
    have := congrArg List.length ht
    rw [List.length_append] at this
    omega
  exact (gg_stop hl h).symm
theorem ord_start {s : α} {r : α → List α} {N : List α} (h : Ord s r N) : N[0]? = some s := by
  obtain ⟨t, ht⟩ := ak_pre h 0
  rw [ht]
  rfl
theorem ord_mem {s : α} {r : α → List α} {N : List α} (h : Ord s r N) {x t : α} (hx : x ∈ N) (ht : t ∈ r x) : t ∈ N := by
  rw [← h.all]
  unfold Ak
  rw [List.take_length]
  exact mem_add.mpr (.inr (List.mem_flatten.mpr ⟨_, List.mem_map.mpr ⟨x, hx, rfl⟩, ht⟩))
theorem ord_nd {s : α} {r : α → List α} {N : List α} (h : Ord s r N) : N.Nodup := by
  rw [← h.all]
  exact nodup_add (by simp)
theorem ord_in {s : α} {r : α → List α} {N : List α} {U : α → Prop} (h : Ord s r N) (hs : U s) (hc : ∀ x, U x → ∀ t ∈ r x, U t) : ∀ x ∈ N, U x := by
  have gen : ∀ k, k ≤ N.length → ∀ x ∈ Ak s r N k, U x := by
    intro k
    induction k with
    | zero => intro _ x hx; rw [List.mem_singleton.mp hx]; exact hs
    | succ k ih =>
      intro hk x hx
      have e := List.getElem?_eq_getElem (l := N) (i := k) (by omega)
      rw [ak_succ e] at hx
      rcases mem_add.mp hx with z | z
      · exact ih (by omega) x z
      · refine hc N[k] (ih (by omega) _ ?_) x z
        have := ak_get h (k := k) (by omega)
        rw [e] at this
        exact List.mem_of_getElem? this.symm
  intro x hx
  rw [← h.all] at hx
  exact gen _ (Nat.le_refl _) x hx
/-- the dict of first places: how its keys and values go on -/
theorem take_add1 {xs : List α} {i : Nat} {x : α} (h : xs[i]? = some x) : add [] (xs.take (i + 1)) = ad (add [] (xs.take i)) x := by
  rw [List.take_add_one, h]
  show add [] (xs.take i ++ [x]) = _
  rw [add_app]
  rfl
theorem idx_first {xs : List α} {i : Nat} {x : α} (h : xs[i]? = some x) (hn : x ∉ add [] (xs.take i)) : xs.idxOf x = i := by
  have hn : x ∉ xs.take i := fun z => hn (mem_add.mpr (.inr z))
  have hl := (List.getElem?_eq_some_iff.mp h).1
  have e : xs = xs.take i ++ xs.drop i := (List.take_append_drop i xs).symm
  have h2 : (xs.drop i)[0]? = some x := by rw [List.getElem?_drop]; exact h
  have h3 : ∃ t, xs.drop i = x :: t := by
    cases hd : xs.drop i with
    | nil => rw [hd] at h2; cases h2
    | cons y t => rw [hd] at h2; cases h2; exact ⟨t, rfl⟩
  obtain ⟨t, ht⟩ := h3
  rw [e, List.idxOf_append, if_neg hn, ht]
  simp
  omega
theorem add_pre_take (xs : List α) (i : Nat) : ∃ t, add [] xs = add [] (xs.take i) ++ t := by
  obtain ⟨t, ht⟩ := add_pre (xs.drop i) (add [] (xs.take i))
  exact ⟨t, by rw [← ht, ← add_app, List.take_append_drop]⟩
theorem add_nodup_self : ∀ {l acc : List α}, (acc ++ l).Nodup → add acc l = acc ++ l
  | [], acc, _ => by rw [add_nil, List.append_nil]
  | x :: l, acc, h => by
    have hx : x ∉ acc := fun z => by
      rw [List.nodup_append] at h
      exact h.2.2 x z x List.mem_cons_self rfl
    rw [add_cons, show ad acc x = acc ++ [x] from if_neg hx, add_nodup_self (by rw [List.append_assoc]; exact h), List.append_assoc]
    rfl
end
section
variable {κ : Type} [DecidableEq κ] {lab : Nat → κ} {mv : Nat → Nat → Nat} {l n s : Nat} {f : Nat → Nat}
/-- f picks one of each class -/
structure Pick (lab : Nat → κ) (mv : Nat → Nat → Nat) (l n : Nat) (f : Nat → Nat) : Prop where
  cl : ∀ i a, i < n → a < l → mv i a < n
  fp : ∀ i, i < n → f i < n ∧ Al lab mv l n (f i) i
  fe : ∀ i j, i < n → j < n → (f i = f j ↔ Al lab mv l n i j)
theorem Pick.idem (p : Pick lab mv l n f) {i : Nat} (h : i < n) : f (f i) = f i := (p.fe _ _ (p.fp i h).1 h).mpr (p.fp i h).2
theorem Pick.step (p : Pick lab mv l n f) {i a : Nat} (h : i < n) (ha : a < l) : f (mv (f i) a) = f (mv i a) :=
  (p.fe _ _ (p.cl _ _ (p.fp i h).1 ha) (p.cl _ _ h ha)).mpr (al_mv p.cl (p.fp i h).1 h (p.fp i h).2 ha)
theorem Pick.same (p : Pick lab mv l n f) {i : Nat} (h : i < n) : lab (f i) = lab i := ek_le lab mv l (Nat.zero_le n) (p.fp i h).2
/-- the row of a node in the search -/
abbrev rowM (mv : Nat → Nat → Nat) (l x : Nat) : List Nat := (List.range l).map (mv x)
/-- the order of the classes -/
abbrev OrdQ (mv : Nat → Nat → Nat) (l s : Nat) (f : Nat → Nat) (M : List Nat) : Prop := Ord (f s) (fun b => (rowM mv l b).map f) M
theorem ordq_fix (p : Pick lab mv l n f) (hs : s < n) {M : List Nat} (h : OrdQ mv l s f M) : ∀ b ∈ M, b < n ∧ f b = b :=
  ord_in (U := fun b => b < n ∧ f b = b) h ⟨(p.fp s hs).1, p.idem hs⟩ fun x hx t ht => by
    obtain ⟨y, hy, rfl⟩ := List.mem_map.mp ht
    obtain ⟨a, ha, rfl⟩ := List.mem_map.mp hy
    have := p.cl x a hx.1 (List.mem_range.mp ha)
    exact ⟨(p.fp _ this).1, p.idem this⟩
/-- the quotient's moves -/
def qmv (mv : Nat → Nat → Nat) (f : Nat → Nat) (M : List Nat) (i a : Nat) : Nat := M.idxOf (f (mv (M.getD i 0) a))
def qlab (lab : Nat → κ) (M : List Nat) (i : Nat) : κ := lab (M.getD i 0)
theorem ordq_mem {M : List Nat} (h : OrdQ mv l s f M) {b a : Nat} (hb : b ∈ M) (ha : a < l) : f (mv b a) ∈ M :=
  ord_mem h hb (List.mem_map.mpr ⟨_, List.mem_map.mpr ⟨a, List.mem_range.mpr ha, rfl⟩, rfl⟩)
theorem getD_mem {M : List Nat} {i : Nat} (h : i < M.length) : M.getD i 0 ∈ M := by
  rw [List.getD_eq_getElem?_getD, List.getElem?_eq_getElem h]
  exact List.getElem_mem h
theorem getD_idx {M : List Nat} {x : Nat} (h : x ∈ M) : M.getD (M.idxOf x) 0 = x := by
  rw [List.getD_eq_getElem?_getD, get_idx h]
  rfl
theorem idx_getD {M : List Nat} (nd : M.Nodup) {i : Nat} (h : i < M.length) : M.idxOf (M.getD i 0) = i := by
  have hm := getD_mem h
  have e := get_idx hm
  have lt := List.idxOf_lt_length_iff.mpr hm
  have e2 : M[i]? = some (M.getD i 0) := by
    rw [List.getD_eq_getElem?_getD, List.getElem?_eq_getElem h]
    rfl
  exact (List.getElem?_inj lt nd).mp (e.trans e2.symm)
/-- alike in the quotient: alike there -/
theorem qek (p : Pick lab mv l n f) (hs : s < n) {M : List Nat} (h : OrdQ mv l s f M) : ∀ k i j, i < M.length → j < M.length → Ek (qlab lab M) (qmv mv f M) l k i j → Ek lab mv l k (M.getD i 0) (M.getD j 0)
  | 0, _, _, _, _, e => e
  | k + 1, i, j, hi, hj, e => by
    refine ⟨qek p hs h k i j hi hj e.1, fun a ha => ?_⟩
    have bi := ordq_fix p hs h _ (getD_mem hi)
    have bj := ordq_fix p hs h _ (getD_mem hj)
    have mi := ordq_mem h (getD_mem hi) ha
    have mj := ordq_mem h (getD_mem hj) ha
    have e2 := qek p hs h k _ _ (List.idxOf_lt_length_iff.mpr mi) (List.idxOf_lt_length_iff.mpr mj) (e.2 a ha)
    rw [getD_idx mi, getD_idx mj] at e2
    have c1 := p.cl _ a bi.1 ha
    have c2 := p.cl _ a bj.1 ha
    have w : ∀ {x}, x < n → Ek lab mv l k (f x) x := fun {x} hx => by
      have := stb_all p.cl (stb_n n p.cl) (max k n) (Nat.le_max_right _ _) _ _ (p.fp x hx).1 hx (p.fp x hx).2
      exact ek_le lab mv l (Nat.le_max_left _ _) this
    exact ek_trans lab mv l k (ek_symm lab mv l k (w c1)) (ek_trans lab mv l k e2 (w c2))
/-- the quotient is its own quotient -/
theorem quot_pick (p : Pick lab mv l n f) (hs : s < n) {M : List Nat} (h : OrdQ mv l s f M) : Pick (qlab lab M) (qmv mv f M) l M.length id := by
  have cl : ∀ i a, i < M.length → a < l → qmv mv f M i a < M.length := fun i a hi ha => List.idxOf_lt_length_iff.mpr (ordq_mem h (getD_mem hi) ha)
  refine ⟨cl, fun i hi => ⟨hi, ek_refl _ _ _ _ _⟩, fun i j hi hj => ⟨fun e => by cases (show i = j from e); exact ek_refl _ _ _ _ _, fun e => ?_⟩⟩
  have e1 := stb_all cl (stb_n M.length cl) (max n M.length) (Nat.le_max_right _ _) i j hi hj e
  have e2 := qek p hs h _ i j hi hj e1
  have e3 := ek_le lab mv l (Nat.le_max_left _ _) e2
  have bi := ordq_fix p hs h _ (getD_mem hi)
  have bj := ordq_fix p hs h _ (getD_mem hj)
  have e4 := (p.fe _ _ bi.1 bj.1).mpr e3
  rw [bi.2, bj.2] at e4
  have := congrArg M.idxOf e4
  rw [idx_getD (ord_nd h) hi, idx_getD (ord_nd h) hj] at this
  exact this
theorem map_idx_range {M : List Nat} (nd : M.Nodup) : M.map M.idxOf = List.range M.length := by
  apply List.ext_getElem?
  intro i
  rw [List.getElem?_map]
  rcases Nat.lt_or_ge i M.length with hi | hi
  · rw [List.getElem?_range hi, List.getElem?_eq_getElem hi]
    have := idx_getD nd hi
    rw [List.getD_eq_getElem?_getD, List.getElem?_eq_getElem hi] at this
    show some (M.idxOf M[i]) = some i
    exact congrArg some this
  · rw [List.getElem?_eq_none hi, List.getElem?_eq_none (by rw [List.length_range]; exact hi)]
    rfl
theorem quot_ord (p : Pick lab mv l n f) (hs : s < n) {M : List Nat} (h : OrdQ mv l s f M) : OrdQ (qmv mv f M) l 0 id (List.range M.length) := by
  have nd := ord_nd h
  have h0 := ord_start h
  have e0 : M.idxOf (f s) = 0 := by
    have hl : 0 < M.length := (List.getElem?_eq_some_iff.mp h0).1
    have := idx_getD nd hl
    rw [List.getD_eq_getElem?_getD, h0] at this
    exact this
  have := ord_map (c := M.idxOf) (q := fun i => (rowM (qmv mv f M) l i).map id) h fun x hx => by
    rw [List.map_id, List.map_map, List.map_map]
    refine List.map_congr_left fun a ha => ?_
    show M.idxOf (f (mv (M.getD (M.idxOf x) 0) a)) = M.idxOf (f (mv x a))
    rw [getD_idx hx]
  rw [e0, map_idx_range nd, add_nodup_self (by rw [List.nil_append]; exact List.nodup_range), List.nil_append] at this
  exact this
/-- the rows of the quotient -/
def qrows (mv : Nat → Nat → Nat) (l : Nat) (f : Nat → Nat) (M : List Nat) : List (List Nat) := M.map fun b => (List.range l).map fun a => M.idxOf (f (mv b a))
theorem qrows_q {M : List Nat} (nd : M.Nodup) : qrows (qmv mv f M) l id (List.range M.length) = qrows mv l f M := by
  unfold qrows
  apply List.ext_getElem?
  intro i
  rw [List.getElem?_map, List.getElem?_map]
  rcases Nat.lt_or_ge i M.length with hi | hi
  · rw [List.getElem?_range hi, List.getElem?_eq_getElem hi]
    show some _ = some _
    congr 1
    refine List.map_congr_left fun a ha => ?_
    show (List.range M.length).idxOf (M.idxOf (f (mv (M.getD i 0) a))) = _
    rw [List.getD_eq_getElem?_getD, List.getElem?_eq_getElem hi]
    show (List.range M.length).idxOf (M.idxOf (f (mv M[i] a))) = _
    rcases Nat.lt_or_ge (M.idxOf (f (mv M[i] a))) M.length with z | z
    · have e := idx_getD (M := List.range M.length) List.nodup_range (i := M.idxOf (f (mv M[i] a))) (by rw [List.length_range]; exact z)
      rw [List.getD_eq_getElem?_getD, List.getElem?_range z] at e
      exact e
    · have h1 : f (mv M[i] a) ∉ M := fun h => Nat.not_lt_of_le z (List.idxOf_lt_length_iff.mpr h)
      have e : M.idxOf (f (mv M[i] a)) = M.length := by
        have := List.idxOf_le_length (a := f (mv M[i] a)) (l := M)
        omega
      rw [e, List.idxOf_eq_length (by simp), List.length_range]
  · rw [List.getElem?_eq_none hi, List.getElem?_eq_none (by rw [List.length_range]; exact hi)]
    rfl
end
end Bq
/-! ### own rules: list(d.values()), len of a dict with nested keys, the parts of a lambda -/
namespace Lvx
open PySem PySem.Spec PyProof.Rows L2
theorem vals_kv {κ : Type} {kvs : List (κ × V)} {vs : List (κ × Value)} (r : KV kvs vs) : ∀ {us : List Value}, us.length = vs.length → (∀ (j : Nat) (u : Value), us[j]? = some u → ∃ k, vs[j]? = some (k, u)) → Vals (kvs.map (·.2)) us := by
  unfold KV at r
  induction r with
  | nil =>
    intro us hl _
    have : us = [] := List.length_eq_zero_iff.mp hl
    subst this
    exact .nil
  | @cons p q ps qs e t ih =>
    intro us hl h
    match us, hl with
    | u :: us, hl =>
      obtain ⟨k, hk⟩ := h 0 u rfl
      have hk : some q = some (k, u) := hk
      cases hk
      exact .cons e.2 (ih (Nat.succ.inj hl) fun j u hj => h (j + 1) u hj)
def tListVals (te : TE) : TE := fun σ H Q => te σ H fun x H1 => ∃ (d : Addr) (kvs : List (Key × V)), x = .ref d ∧ H1 d = some (.dK kvs) ∧ ∀ p, H1 p = none → Q (.ref p) (upd H1 p (.lst (kvs.map (·.2))))
section
variable {X : Cx} {e : Expr} {te : TE} {p apos cpos pos : Pos}
theorem pe_listVals (hc : X.calm = true) (he : PE X e te) (hg : Gl X "list") (hm : X.mg "list" = none) (hv : bootBuiltins "list" = some (.type "list")) (hbase : attributeBase e "values" X.env (eval e X.env) = eval e X.env := by rfl) (hline : (apos.endLine == cpos.line) = true := by rfl)
    (hs : starEach [.Call (.Attribute e "values" apos) [] [] cpos] X.env = (false, eval (.Call (.Attribute e "values" apos) [] [] cpos) X.env) :: starEach [] X.env := by rfl) :
    PE X (.Call (.Name "list" p) [.Call (.Attribute e "values" apos) [] [] cpos] [] pos) (tListVals te) := by
  refine ⟨fun pins s σ H Q I hq => ?_⟩
  refine wpAny_Call_Name_kw (ld_blt I hg hm hv ?_)
  refine PyProof.Rows.callWith_type1 ?_ hs rfl
  rw [hs]
  show wpAny _ _ (spliced ((false, eval (.Call (.Attribute e "values" apos) [] [] cpos) X.env) :: backTo pos (starEach [] X.env))) _ _ s
  refine Calls.spliced_cons ?_
  refine wpAny_Call_method (T := "dict") (id := "dict.values") hbase rfl hline F.plainAttrs_dict F.slot_dict_values F.type_dict_values (thn (he.run pins s σ H _ I hq) fun u s1 ⟨x, H1, I1, rx, d, kvs, ex, hd, q⟩ => ?_)
  subst ex
  obtain rfl : u = Value.ref d := rx
  obtain ⟨hz, hs0, vs, kv, hdo⟩ := I1.hok d _ hd
  obtain ⟨ep, hat⟩ := hdo.dictAt
  have lk : kvs.length = vs.length := Paired.length kv
  have I2 : Inv X pins σ H1 { s1 with heap := s1.heap.push { cls := .type "dict_values", data := .fields #[.ref d] } } := I1.kept (t' := s1.toks) fun b ob q => Heap.get?_push_of_some _ q
  refine ⟨hdo.typeIs, hdo.mapOf.noDict, ?_⟩
  show wpAny _ _ (callWith cpos (.builtin "dict.values") [.ref d] [] []) _ X.xe s1
  refine method_meetsIn F.slot_dict_values F.entry_dict_values rfl (PySem.evalArgs_none ⟨rfl, hdo.typeIs, F.args_dict_values_1 _, _, meets_dict_values (mixKind X.prog X.w) d hs0, ⟨vs, hdo⟩, ?_⟩)
  refine Calls.spliced_nil ?_
  refine PySem.W.kdl_call (PySem.W.kdl_values (knd := mixKind X.prog X.w) (r := s1.heap.objs.size) (d := d) (kvs := vs) (ep := ep)) (I1.ok.hd hc) ⟨⟨_, Heap.get?_push_size _ rfl, rfl, rfl⟩, hat.push _⟩ (by omega) fun h' tk acc c hk hS hacc => ?_
  have el : acc.toList.length = acc.size := by simp
  refine ⟨.ref _, upd H1 _ (.lst (kvs.map (·.2))), I2.laid (t' := tk) hk (Nat.le_refl _) (show ObjOk X.prog X.w _ _ _ (.lst (kvs.map (·.2))) from ⟨?_, acc.toList, c, vals_kv kv (by rw [el, hacc.1]) fun j u hj => hacc.2 j u (by rw [← Array.getElem?_toList]; exact hj), ?_⟩), rfl, q _ (I2.hok.fresh (Nat.le_refl _))⟩
  · rw [List.length_map]; exact hz
  · rw [Array.toArray_toList]; exact hS
end
end Lvx
namespace Dn2
open PySem PySem.Spec PyProof.Rows L2
theorem cr_lenN {X : Cx} {P : Program} {w : World} {K : PySem.W.Frag} (hp : X.prog = P) (hw : X.w = w) (hK : X.K = K) : CallR X (.builtin "len") (fun xs H Q => ∃ a kvs, xs = [V.ref a] ∧ DN P w K H a kvs ∧ Q (.int kvs.length) H) := by
  subst hp hw hK
  intro pins s σ H xs us Q I r h
  obtain ⟨a, kvs, rfl, ⟨⟨ys, e, rp⟩, hk⟩, q⟩ := h
  obtain ⟨u, rfl, ru⟩ := vals1 r
  cases ru
  obtain ⟨z, y, D⟩ := dn_heap I.kIn I.hok e rp hk
  refine call_len_dictH y D (by rw [sizeLine_eq] at z; omega) ?_
  exact ⟨.int kvs.length, H, I.tok _, ⟨_, by rw [rel_len rp]⟩, q⟩
end Dn2
namespace Lm
open PySem PySem.Spec PyProof.Rows L2 LamX NdefX Clo
def lamIn (st : Stmt) (k : Nat) : Expr := match st with
  | .Assign _ (.Call _ es _ _) _ => es.getD k (.Name "" ⟨0, 0, 0, 0⟩)
  | _ => .Name "" ⟨0, 0, 0, 0⟩
def lamS : Expr → Scope
  | .Lambda _ _ sc _ => sc
  | _ => defScope (.Pass ⟨0, 0, 0, 0⟩)
def lamB : Expr → Expr
  | .Lambda _ b _ _ => b
  | e => e
def lamA : Expr → Arguments
  | .Lambda a _ _ _ => a
  | _ => defArgs (.Pass ⟨0, 0, 0, 0⟩)
theorem pe_lamB {X : Cx} {T : List NTab} {nm : Nat → Nat → Str} {c P : Addr} {params : Arguments} {body : Expr} {scope sc : Scope} {pos : Pos} (TB : TabB X.base X.mg c P) (hcode : X.env.code = .ref c) (hm : (P, nm) ∈ T) (hn : nm pos.line pos.col = X.env.qual ++ "<lambda>") (hu : ∀ p ∈ T, p.1 = P → p.2 = nm)
    (hdef : defaultsOf params X.env = ([], [])) (hs : X.env.scope = sc) (hfree : (scope.names.all fun y => !decide (y.2 = .free) || decide (sc.names.lookup y.1 = some .cell)) = true) :
    PE X (.Lambda params body scope pos) (tLamM X T params body scope) := pe_lamM TB hcode hm hn hu hdef fun y hy e => by
  have := List.all_eq_true.mp hfree y hy
  rw [hs]
  rw [e] at this
  exact .inl (by simpa using this)
end Lm
/-! ### own rule: list(zip(a, b)), a a list, b a tuple -/
namespace Lzp
open PySem PySem.Spec PyProof.Rows
section
variable {prog : Program} {w : World} {A : Around} {E : Value → Shared → Prop} {s : Shared} {z TI TO i1 i2 : Addr} {fp1 fp2 : List Addr} {n1 n2 i : Nat} {P1 P2 : Nat → Value → Prop} {St1 St2 : Nat → Heap → Prop}
theorem heldD_item {T : Addr} {f : Bool} {oT : Obj} {Q : Value → Shared → Prop} (S : ZipSep2 z TI TO i1 i2 fp1 fp2) (D1 : Draws prog w A i1 fp1 n1 P1 St1) (D2 : Draws prog w A i2 fp2 n2 P2 St2)
    (hz : IsZipHeld s.heap z TI TO T f) (hT : s.heap.get? T = some oT) (hTI : IsTupOf2 s.heap TI (.ref i1) (.ref i2)) (st1 : St1 i s.heap) (st2 : St2 i s.heap) (hlt1 : i < n1) (hlt2 : i < n2)
    (hQ : ∀ x1 x2 h' tk, P1 i x1 → P2 i x2 → IsZipHeld h' z TI TO T true → St1 (i + 1) h' → St2 (i + 1) h' → IsTupOf2 h' s.heap.objs.size x1 x2 → h'.objs.size = s.heap.objs.size + 1 →
      (∀ c o, c ≠ z → c ≠ i1 → c ≠ i2 → s.heap.get? c = some o → h'.get? c = some o) → Q (.ref s.heap.objs.size) { s with heap := h', toks := tk }) :
    wpAny (model prog w) A (Builtin.«zip.__next__» ⟨[.ref z], []⟩) (fun fin s' => ∃ v, fin = .done (.ret v) ∧ Q v s') E s := by
  obtain ⟨hp, g, d, tk0, os⟩ := s
  show wpAny _ _ (field (.ref z) 2 >>= _) _ _ _
  refine wpAny_bind (wpAny_field hz rfl (x := .bool false) rfl ?_)
  show wpAny _ _ (field (.ref z) 3 >>= _) _ _ _
  refine wpAny_bind (wpAny_field hz rfl (x := .ref TI) rfl ?_)
  refine wpAny_bind (wpAny_seqItems hTI rfl ?_)
  show wpAny _ _ (Builtin.SmallTypes.ownedTupleIsFree (.ref z) >>= _) _ _ _
  refine wpAny_bind (wpAny_tupleHeld_zip hz hT fun h₁ hz₁ hs₁ => ?_)
  simp only [Bool.false_eq_true, if_false]
  refine wpAny_bind ?_
  rw [← Array.forIn_toList]
  simp only [List.forIn_cons, List.forIn_nil]
  refine wpAny_bind (wpAny_bind (wpAny_holding ?_))
  show wpAny _ _ (Builtin.SmallTypes.nextOf (.ref i1) >>= _) _ _ ⟨h₁, g, d, tk0, os⟩
  replace hs₁ : Heap.SameBut z hp h₁ := hs₁
  refine wpAny_bind (D1.item i _ _ _ hlt1 (D1.over st1 hs₁ S.zf1) fun x1 p1 tk1 hx1 sn1 hp1 => wpAny_pure ?_)
  replace hp1 : Heap.SameBut i1 h₁ p1 := hp1
  refine wpAny_pure ?_
  refine wpAny_bind (wpAny_bind (wpAny_holding ?_))
  show wpAny _ _ (Builtin.SmallTypes.nextOf (.ref i2) >>= _) _ _ ⟨p1, g, d, tk1, os⟩
  refine wpAny_bind (D2.item i _ _ _ hlt2 (D2.over (D2.over st2 hs₁ S.zf2) hp1 S.sep1_2) fun x2 p2 tk2 hx2 sn2 hp2 => wpAny_pure ?_)
  replace hp2 : Heap.SameBut i2 p1 p2 := hp2
  refine wpAny_pure (wpAny_pure ?_)
  show wpAny _ _ (newTuple [x1, x2] >>= _) _ _ _
  refine wpAny_bind (wpAny_newTuple ?_)
  have hsz : p2.objs.size = hp.objs.size := by rw [hp2.1, hp1.1, hs₁.1]
  have hzz : IsZipHeld p2 z TI TO T true := hp2.extBut _ _ S.zi2 (hp1.extBut _ _ S.zi1 hz₁)
  have hk : ∀ c o, c ≠ z → c ≠ i1 → c ≠ i2 → hp.get? c = some o → p2.get? c = some o := fun c o c1 c2 c3 e => hp2.extBut _ _ c3 (hp1.extBut _ _ c2 (hs₁.extBut _ _ c1 e))
  have hj1 : St1 (i + 1) p2 := D1.over sn1 hp2 S.sep2_1
  refine wpAny_pure ⟨_, rfl, ?_⟩
  show Q (.ref p2.objs.size) _
  have hpp : IsTupOf2 (p2.push { cls := .type "tuple", data := .seq #[x1, x2] }) p2.objs.size x1 x2 := Heap.get?_push_size _ rfl
  have hz4 : (p2.push { cls := .type "tuple", data := .seq #[x1, x2] }).objs.size = p2.objs.size + 1 := Heap.size_push ..
  rw [hsz] at hpp hz4 ⊢
  exact hQ x1 x2 _ tk2 hx1 hx2 (Heap.get?_push_of_some _ hzz) (D1.frame _ _ _ hj1 fun b hb o e => Heap.get?_push_of_some _ e) (D2.frame _ _ _ sn2 fun b hb o e => Heap.get?_push_of_some _ e) hpp hz4 fun c o c1 c2 c3 e => Heap.get?_push_of_some _ (hk c o c1 c2 c3 e)
theorem heldD_end {T : Addr} {f : Bool} {oT : Obj} {Q : Fin → Shared → Prop} (S : ZipSep2 z TI TO i1 i2 fp1 fp2) (D1 : Draws prog w A i1 fp1 n1 P1 St1)
    (hz : IsZipHeld s.heap z TI TO T f) (hT : s.heap.get? T = some oT) (hTI : IsTupOf2 s.heap TI (.ref i1) (.ref i2)) (st1 : St1 n1 s.heap)
    (hE : ∀ h' e, (∀ c o, c ≠ z → c ≠ i1 → c ≠ i2 → s.heap.get? c = some o → h'.get? c = some o) → (∃ o, h'.get? e = some o ∧ o.cls = .type "StopIteration") → E (.ref e) { s with heap := h' }) :
    wpAny (model prog w) A (Builtin.«zip.__next__» ⟨[.ref z], []⟩) Q E s := by
  show wpAny _ _ (field (.ref z) 2 >>= _) _ _ _
  refine wpAny_bind (wpAny_field hz rfl (x := .bool false) rfl ?_)
  show wpAny _ _ (field (.ref z) 3 >>= _) _ _ _
  refine wpAny_bind (wpAny_field hz rfl (x := .ref TI) rfl ?_)
  refine wpAny_bind (wpAny_seqItems hTI rfl ?_)
  show wpAny _ _ (Builtin.SmallTypes.ownedTupleIsFree (.ref z) >>= _) _ _ _
  refine wpAny_bind (wpAny_tupleHeld_zip hz hT fun h₁ hz₁ hs₁ => ?_)
  simp only [Bool.false_eq_true, if_false]
  refine wpAny_bind ?_
  rw [← Array.forIn_toList]
  simp only [List.forIn_cons, List.forIn_nil]
  refine wpAny_bind (wpAny_bind (wpAny_holding ?_))
  show wpAny _ _ (Builtin.SmallTypes.nextOf (.ref i1) >>= _) _ _ _
  refine wpAny_bind (D1.done _ _ _ (D1.over st1 hs₁ S.zf1) fun h₂ e hs₂ he => ?_)
  exact hE h₂ e (fun c o c1 c2 _ x => hs₂ _ _ c2 (hs₁.extBut _ _ c1 x)) he

theorem next_held {T : Addr} {f : Bool} {oT : Obj} {Q : Option Value → Shared → Prop} (S : ZipSep2 z TI TO i1 i2 fp1 fp2) (D1 : Draws prog w A.in1 i1 fp1 n1 P1 St1) (D2 : Draws prog w A.in1 i2 fp2 n2 P2 St2)
    (hz : IsZipHeld s.heap z TI TO T f) (hT : s.heap.get? T = some oT) (hTI : IsTupOf2 s.heap TI (.ref i1) (.ref i2)) (st1 : St1 i s.heap) (st2 : St2 i s.heap) (hlt1 : i < n1) (hlt2 : i < n2)
    (hQ : ∀ x1 x2 h' tk, P1 i x1 → P2 i x2 → IsZipHeld h' z TI TO T true → St1 (i + 1) h' → St2 (i + 1) h' → IsTupOf2 h' s.heap.objs.size x1 x2 → h'.objs.size = s.heap.objs.size + 1 →
      (∀ c o, c ≠ z → c ≠ i1 → c ≠ i2 → s.heap.get? c = some o → h'.get? c = some o) → Q (some (.ref s.heap.objs.size)) { s with heap := h', toks := tk }) :
    wpAny (model prog w) A (pyNext (.ref z)) Q E s := by
  have hTy : s.TypeIs (.ref z) "zip" := ⟨_, hz, rfl⟩
  unfold pyNext
  exact wpAny_bind (wpAny_attempt (wpAny_callSpecial?_slot (name := Str.ofString "__next__") hTy F.slot_zip_next
    (wpAny_call_entry F.slot_zip_next hTy F.entry_zip_next
      (heldD_item S D1 D2 hz hT hTI st1 st2 hlt1 hlt2 fun x1 x2 h' tk y1 y2 b1 d1 d2 b5 b6 b7 => wpAny_pure (hQ x1 x2 h' tk y1 y2 b1 d1 d2 b5 b6 b7)) (F.args_zip_next_1 _))))
theorem end_held {T : Addr} {f : Bool} {oT : Obj} {Q : Option Value → Shared → Prop} (S : ZipSep2 z TI TO i1 i2 fp1 fp2) (D1 : Draws prog w A.in1 i1 fp1 n1 P1 St1)
    (hz : IsZipHeld s.heap z TI TO T f) (hT : s.heap.get? T = some oT) (hTI : IsTupOf2 s.heap TI (.ref i1) (.ref i2)) (st1 : St1 n1 s.heap)
    (hQ : ∀ h' tk, (∀ c o, c ≠ z → c ≠ i1 → c ≠ i2 → s.heap.get? c = some o → h'.get? c = some o) → Q none { s with heap := h', toks := tk }) : wpAny (model prog w) A (pyNext (.ref z)) Q E s := by
  have hTy : s.TypeIs (.ref z) "zip" := ⟨_, hz, rfl⟩
  unfold pyNext
  refine wpAny_bind (wpAny_attempt (wpAny_callSpecial?_slot (name := Str.ofString "__next__") hTy F.slot_zip_next
    (wpAny_call_entry F.slot_zip_next hTy F.entry_zip_next (heldD_end S D1 hz hT hTI st1 fun h' e hk he => ?_) (F.args_zip_next_1 _))))
  obtain ⟨o, ho, hc⟩ := he
  refine wpAny_bind (wpAny_isInstance (T := "StopIteration") (b := true) ⟨o, ho, hc⟩ isSubtype_stop ?_)
  exact wpAny_pure (hQ _ _ hk)
/-- how far the zip has come; S is the list that grows -/
def ZSt (h : Heap) (z TI TO i1 i2 S : Addr) (St1 St2 : Nat → Heap → Prop) (i : Nat) : Prop := IsTupOf2 h TI (.ref i1) (.ref i2) ∧ St1 i h ∧ St2 i h ∧ ((IsZip h z TI TO .none ∧ ∃ a1 a2, IsTupOf2 h TO a1 a2) ∨ ∃ T f oT, IsZipHeld h z TI TO T f ∧ h.get? T = some oT ∧ T ≠ z ∧ T ≠ i1 ∧ T ≠ i2 ∧ T ≠ S)
theorem zst_keep {h h' : Heap} {S : Addr} (Sp : ZipSep2 z TI TO i1 i2 fp1 fp2) (D1 : Draws prog w A i1 fp1 n1 P1 St1) (D2 : Draws prog w A i2 fp2 n2 P2 St2) (x : ZSt h z TI TO i1 i2 S St1 St2 i) (k : ∀ b o, b ≠ S → h.get? b = some o → h'.get? b = some o) (c1 : TI ≠ S) (c2 : z ≠ S) (c3 : TO ≠ S) (c4 : S ∉ fp1) (c5 : S ∉ fp2) : ZSt h' z TI TO i1 i2 S St1 St2 i := by
  obtain ⟨h1, h2, h3, h4⟩ := x
  refine ⟨k _ _ c1 h1, D1.frame _ _ _ h2 fun b hb o e => k b o (fun q => c4 (q ▸ hb)) e, D2.frame _ _ _ h3 fun b hb o e => k b o (fun q => c5 (q ▸ hb)) e, ?_⟩
  rcases h4 with ⟨h4, a1, a2, h5⟩ | ⟨T, f, oT, h4, h5, t1, t2, t3, t4⟩
  · exact .inl ⟨k _ _ c2 h4, a1, a2, k _ _ c3 h5⟩
  · exact .inr ⟨T, f, oT, k _ _ c2 h4, k _ _ t4 h5, t1, t2, t3, t4⟩
theorem zst_item {S : Addr} {Q : Option Value → Shared → Prop} (Sp : ZipSep2 z TI TO i1 i2 fp1 fp2) (D1 : Draws prog w A.in1 i1 fp1 n1 P1 St1) (D2 : Draws prog w A.in1 i2 fp2 n2 P2 St2) (x : ZSt s.heap z TI TO i1 i2 S St1 St2 i) (hS : S < s.heap.objs.size) (hlt1 : i < n1) (hlt2 : i < n2)
    (hQ : ∀ x1 x2 h' tk, P1 i x1 → P2 i x2 → ZSt h' z TI TO i1 i2 S St1 St2 (i + 1) → IsTupOf2 h' s.heap.objs.size x1 x2 → h'.objs.size = s.heap.objs.size + 1 →
      (∀ c o, c ≠ z → c ≠ TO → c ≠ i1 → c ≠ i2 → s.heap.get? c = some o → h'.get? c = some o) → Q (some (.ref s.heap.objs.size)) { s with heap := h', toks := tk }) :
    wpAny (model prog w) A (pyNext (.ref z)) Q E s := by
  obtain ⟨h1, h2, h3, h4⟩ := x
  have lt : ∀ {c o}, s.heap.get? c = some o → s.heap.objs.size ≠ c := fun e => Nat.ne_of_gt (Heap.lt_size e)
  have l1 : s.heap.objs.size ≠ i1 := by obtain ⟨_, e⟩ := D1.live _ _ h2; exact lt e
  have l2 : s.heap.objs.size ≠ i2 := by obtain ⟨_, e⟩ := D2.live _ _ h3; exact lt e
  rcases h4 with ⟨h4, a1, a2, h5⟩ | ⟨T, f, oT, h4, h5, t1, t2, t3, t4⟩
  · exact wpAny_pyNext_zipD2_item Sp D1 D2 h4 h1 h5 h2 h3 hlt1 hlt2 fun x1 x2 h' tk y1 y2 b1 b2 d1 d2 b5 b6 hk => hQ x1 x2 h' tk y1 y2 ⟨hk _ _ Sp.TIz Sp.TITO Sp.TIi1 Sp.TIi2 h1, d1, d2, .inr ⟨_, false, _, b1, b5, lt h4, l1, l2, Nat.ne_of_gt hS⟩⟩ b5 b6 hk
  · exact next_held Sp D1 D2 h4 h5 h1 h2 h3 hlt1 hlt2 fun x1 x2 h' tk y1 y2 b1 d1 d2 b5 b6 hk => hQ x1 x2 h' tk y1 y2 ⟨hk _ _ Sp.TIz Sp.TIi1 Sp.TIi2 h1, d1, d2, .inr ⟨T, true, oT, b1, hk _ _ t1 t2 t3 h5, t1, t2, t3, t4⟩⟩ b5 b6 fun c o e1 _ e3 e4 => hk c o e1 e3 e4
theorem zst_end {S : Addr} {Q : Option Value → Shared → Prop} (Sp : ZipSep2 z TI TO i1 i2 fp1 fp2) (D1 : Draws prog w A.in1 i1 fp1 n1 P1 St1) (D2 : Draws prog w A.in1 i2 fp2 n1 P2 St2) (x : ZSt s.heap z TI TO i1 i2 S St1 St2 n1)
    (hQ : ∀ h' tk, (∀ c o, c ≠ z → c ≠ TO → c ≠ i1 → c ≠ i2 → s.heap.get? c = some o → h'.get? c = some o) → Q none { s with heap := h', toks := tk }) : wpAny (model prog w) A (pyNext (.ref z)) Q E s := by
  obtain ⟨h1, h2, h3, h4⟩ := x
  rcases h4 with ⟨h4, a1, a2, h5⟩ | ⟨T, f, oT, h4, h5, t1, t2, t3, t4⟩
  · exact wpAny_pyNext_zipD2_end Sp D1 D2 h4 h1 h5 h2 h3 (Nat.le_refl _) (Nat.le_refl _) (.inl rfl) hQ
  · exact end_held Sp D1 h4 h5 h1 h2 fun h' tk hk => hQ h' tk fun c o e1 _ e3 e4 => hk c o e1 e3 e4
structure LzG (P1 P2 : Nat → Value → Prop) (lo : Addr) (h : Heap) (as : List Addr) : Prop where
  rise : as.Pairwise (· < ·)
  above : ∀ a ∈ as, lo < a
  pairs : ∀ (j : Nat) (a : Addr), as[j]? = some a → ∃ x1 x2, P1 j x1 ∧ P2 j x2 ∧ IsTupOf2 h a x1 x2
end
section
variable {prog : Program} {w : World} {A : Around} {s : Shared} {R : Result → Shared → Prop} {z TI TO i1 i2 : Addr} {fp1 fp2 : List Addr} {n : Nat} {P1 P2 : Nat → Value → Prop} {St1 St2 : Nat → Heap → Prop}
theorem lz_loop {S : Addr} (Sp : ZipSep2 z TI TO i1 i2 fp1 fp2) (D1 : Draws prog w A.in1.in1 i1 fp1 n P1 St1) (D2 : Draws prog w A.in1.in1 i2 fp2 n P2 St2) (zS : z < S) (tS : TO < S) (c1 : TI ≠ S) (s1 : i1 < S) (s2 : i2 < S) (c4 : S ∉ fp1) (c5 : S ∉ fp2) (hn : n ≤ sizeLine) (res : Value) {h₁ : Heap}
    (hR : ∀ h' tk acc c as, (∀ b o, b ≠ S → b ≠ z → b ≠ TO → b ≠ i1 → b ≠ i2 → h₁.get? b = some o → h'.get? b = some o) → h'.get? S = some { cls := .type "list", dict := none, data := .seq acc c, slots := #[] } → as.length = n → LzG P1 P2 S h' as →
      acc.toList = as.map Value.ref → R (.ok (.ret res)) { s with heap := h', toks := tk }) :
    ∀ (k i : Nat) (h : Heap) (tk c : Nat) (acc : Array Value) (as : List Addr), n - i = k → i ≤ n → ZSt h z TI TO i1 i2 S St1 St2 i → (∀ b o, b ≠ S → b ≠ z → b ≠ TO → b ≠ i1 → b ≠ i2 → h₁.get? b = some o → h.get? b = some o) →
      h.get? S = some { cls := .type "list", dict := none, data := .seq acc c, slots := #[] } → acc.toList = as.map Value.ref → as.length = i → LzG P1 P2 S h as →
      codeAny (model prog w) A (.builtin "list.extend.loop" ⟨[.ref S, .ref z, res], []⟩) R { s with heap := h, toks := tk } := by
  intro k
  induction k with
  | zero =>
    intro i h tk c acc as hk hi hst hkeep hS hacc hal hG
    have hin : i = n := by omega
    subst hin
    refine codeAny_builtin PySem.F.entry_extend_loop ?_
    rw [Around.under_plainId PySem.F.plain_extend_loop _]
    show wpAny _ A.in1 (pyNext (.ref z) >>= _) _ _ _
    refine wpAny_bind (zst_end (s := { s with heap := h, toks := tk }) (A := A.in1) Sp D1 D2 hst fun h' tk' he => ?_)
    refine wpAny_pure (hR h' tk' acc c as (fun b o h1 h2 h3 h4 h5 e => he b o h2 h3 h4 h5 (hkeep b o h1 h2 h3 h4 h5 e)) (he S _ (Nat.ne_of_gt zS) (Nat.ne_of_gt tS) (Nat.ne_of_gt s1) (Nat.ne_of_gt s2) hS) hal ⟨hG.rise, hG.above, fun j a hj => ?_⟩ hacc)
    obtain ⟨x1, x2, e1, e2, e3⟩ := hG.pairs j a hj
    have ha := hG.above a (List.mem_of_getElem? hj)
    exact ⟨x1, x2, e1, e2, he a _ (Nat.ne_of_gt (Nat.lt_trans zS ha)) (Nat.ne_of_gt (Nat.lt_trans tS ha)) (Nat.ne_of_gt (Nat.lt_trans s1 ha)) (Nat.ne_of_gt (Nat.lt_trans s2 ha)) e3⟩
  | succ k ih =>
    intro i h tk c acc as hk hi hst hkeep hS hacc hal hG
    have hlt : i < n := by omega
    have hsz : acc.size = i := by rw [← Array.length_toList, hacc, List.length_map, hal]
    have hSl : S < h.objs.size := Heap.lt_size hS
    refine codeAny_builtin PySem.F.entry_extend_loop ?_
    rw [Around.under_plainId PySem.F.plain_extend_loop _]
    show wpAny _ A.in1 (pyNext (.ref z) >>= _) _ _ _
    refine wpAny_bind (zst_item (s := { s with heap := h, toks := tk }) (A := A.in1) (S := S) Sp D1 D2 hst hSl hlt hlt fun x1 x2 h' tk' y1 y2 hst' ht hz hkp => ?_)
    dsimp only at ht hz hkp ⊢
    have hS' := hkp S _ (Nat.ne_of_gt zS) (Nat.ne_of_gt tS) (Nat.ne_of_gt s1) (Nat.ne_of_gt s2) hS
    have up : ∀ b o, b ≠ S → h'.get? b = some o → (h'.update S (Obj.mapSeq (·.push (Value.ref h.objs.size)))).get? b = some o := fun b o hb e => (Heap.get?_update_other _ _ (Ne.symm hb)).trans e
    show wpAny _ A.in1 (updateSeq S (·.push (Value.ref h.objs.size)) >>= _) _ _ _
    refine wpAny_bind ?_
    refine wpAny_updateSeq hS' rfl (wpAny_pure ⟨plainId_quiet PySem.F.plain_extend_loop _, ih (i + 1) _ tk' _ (acc.push (Value.ref h.objs.size)) (as ++ [h.objs.size]) (by omega) hlt (zst_keep Sp D1 D2 hst' up c1 (Nat.ne_of_lt zS) (Nat.ne_of_lt tS) c4 c5)
      (fun b o h1 h2 h3 h4 h5 e => up b o h1 (hkp b o h2 h3 h4 h5 (hkeep b o h1 h2 h3 h4 h5 e))) (Heap.get?_update_self _ hS' rfl) (by rw [Array.toList_push, hacc, List.map_append]; rfl) (by rw [List.length_append, hal]; rfl) ⟨?_, ?_, ?_⟩⟩) (by rw [hsz]; omega) (by show (acc.push (Value.ref h.objs.size)).size ≤ sizeLine + 1; rw [Array.size_push, hsz]; omega)
    · refine List.pairwise_append.mpr ⟨hG.rise, List.pairwise_singleton _ _, fun a ha b hb => ?_⟩
      rw [List.mem_singleton.mp hb]
      obtain ⟨j, hj⟩ := List.mem_iff_getElem?.mp ha
      obtain ⟨_, _, _, _, e⟩ := hG.pairs j a hj
      exact Heap.lt_size e
    · intro a ha
      rcases List.mem_append.mp ha with ha | ha
      · exact hG.above a ha
      · rw [List.mem_singleton.mp ha]; exact hSl
    · intro j b hj
      rcases Nat.lt_trichotomy j as.length with h1 | h1 | h1
      · rw [List.getElem?_append_left h1] at hj
        obtain ⟨x1', x2', e1, e2, e3⟩ := hG.pairs j b hj
        have hb := hG.above b (List.mem_of_getElem? hj)
        exact ⟨x1', x2', e1, e2, up b _ (Nat.ne_of_gt hb) (hkp b _ (Nat.ne_of_gt (Nat.lt_trans zS hb)) (Nat.ne_of_gt (Nat.lt_trans tS hb)) (Nat.ne_of_gt (Nat.lt_trans s1 hb)) (Nat.ne_of_gt (Nat.lt_trans s2 hb)) e3)⟩
      · subst h1
        have hb : h.objs.size = b := by simpa using hj
        subst hb
        exact ⟨x1, x2, by rw [hal]; exact y1, by rw [hal]; exact y2, up _ _ (Nat.ne_of_gt hSl) ht⟩
      · have hnone : (as ++ [h.objs.size])[j]? = none := List.getElem?_eq_none (by rw [List.length_append, List.length_singleton]; omega)
        rw [hnone] at hj; cases hj
end
theorem zip_no_len : typeLookup (.type "zip") "__len__" = pure none := am_miss_of_fast (by decide +kernel)
theorem zip_no_hint : typeLookup (.type "zip") "__length_hint__" = pure none := am_miss_of_fast (by decide +kernel)
section
variable {prog : Program} {w : World} {A : Around} {E : Value → Shared → Prop} {s : Shared} {r z TI TO i1 i2 : Addr} {fp1 fp2 : List Addr} {n : Nat} {P1 P2 : Nat → Value → Prop} {St1 St2 : Nat → Heap → Prop}
theorem zip_hint (hT : s.TypeIs (.ref r) "zip") {Q : Bool → Shared → Prop} (h : Q true s) : wpAny (model prog w) A (Builtin.List.listLengthHint (.ref r)) Q E s := by
  unfold Builtin.List.listLengthHint
  refine wpAny_bind (wpAny_specialOf hT zip_no_len ?_)
  refine wpAny_bind (wpAny_specialOf hT zip_no_hint ?_)
  exact wpAny_pure h

theorem lz_extend {R : Result → Shared → Prop} {S : Addr} (Sp : ZipSep2 z TI TO i1 i2 fp1 fp2) (D1 : Draws prog w A.in1.in1 i1 fp1 n P1 St1) (D2 : Draws prog w A.in1.in1 i2 fp2 n P2 St2) (zS : z < S) (tS : TO < S) (c1 : TI ≠ S) (s1 : i1 < S) (s2 : i2 < S) (c4 : S ∉ fp1) (c5 : S ∉ fp2) (hn : n ≤ sizeLine)
    (hz : IsZip s.heap z TI TO .none) (hst : ZSt s.heap z TI TO i1 i2 S St1 St2 0) (res : Value) (c₀ : Nat) (hS : s.heap.get? S = some { cls := .type "list", data := .seq #[] c₀ })
    (hR : ∀ h' tk acc c as, (∀ b o, b ≠ S → b ≠ z → b ≠ TO → b ≠ i1 → b ≠ i2 → s.heap.get? b = some o → h'.get? b = some o) → h'.get? S = some { cls := .type "list", dict := none, data := .seq acc c, slots := #[] } → as.length = n → LzG P1 P2 S h' as →
      acc.toList = as.map Value.ref → R (.ok (.ret res)) { s with heap := h', toks := tk }) :
    wpAny (model prog w) A.in1 (Builtin.List.listExtendWith (.ref S) (.ref z) res)
      (fun fin s' => match fin with | .done f => R (.ok f) s' | .again c' => c'.quiet = true ∧ codeAny (model prog w) A c' R s') (fun e s' => R (.error e) s') s := by
  have key : ∀ (h : Heap) (c₁ tk : Nat), (∀ b o, b ≠ S → s.heap.get? b = some o → h.get? b = some o) →
      h.get? S = some { cls := .type "list", data := .seq #[] c₁ } → codeAny (model prog w) A (.builtin "list.extend.loop" ⟨[.ref S, .ref z, res], []⟩) R { s with heap := h, toks := tk } := by
    intro h c₁ tk hk hS₁
    exact lz_loop (s := s) (h₁ := s.heap) Sp D1 D2 zS tS c1 s1 s2 c4 c5 hn res (fun h' tk' acc c as hk' hS' hl hG hacc => hR h' tk' acc c as hk' hS' hl hG hacc)
      n 0 h tk c₁ #[] [] (Nat.sub_zero _) (Nat.zero_le _) (zst_keep Sp D1 D2 hst hk c1 (Nat.ne_of_lt zS) (Nat.ne_of_lt tS) c4 c5) (fun b o hb _ _ _ _ e => hk b o hb e) hS₁ rfl rfl
      ⟨List.Pairwise.nil, (fun _ ha => nomatch ha), (fun j a hj => by simp at hj)⟩
  unfold Builtin.List.listExtendWith
  have hT : s.TypeIs (.ref z) "zip" := ⟨_, hz, rfl⟩
  refine wpAny_bind (wpAny_typeOf (T := "zip") hT ?_)
  have h1 : Builtin.List.listSameRef (.ref S) (.ref z) = false := by simp [Builtin.List.listSameRef, Nat.ne_of_gt zS]
  have h2 : (Value.type "zip" == Value.type "list") = false := by decide
  have h3 : (Value.type "zip" == Value.type "tuple") = false := by decide
  simp only [h1, h2, h3, Bool.or_false, Bool.false_eq_true, if_false]
  refine wpAny_bind (wpAny_pyIter_zip hz ?_)
  refine wpAny_bind (wpAny_holding (zip_hint hT ?_))
  refine wpAny_ite_split (fun _ => ?_) (fun _ => wpAny_pure ⟨plainId_quiet PySem.F.plain_extend_loop _, key _ c₀ _ (fun b o _ e => e) hS⟩)
  refine wpAny_bind (wpAny_rule ?_)
  refine wpAny_bind ?_
  show wpAny _ _ (updateSeq S (·.push .none) >>= fun _ => updateSeq S (·.pop)) _ _ _
  refine wpAny_bind (wpAny_updateSeq hS rfl ?_)
  have hS₂ := Heap.get?_update_self (Obj.mapSeq (·.push Value.none)) hS rfl
  refine wpAny_updateSeq (hz := by seq_fits) hS₂ rfl ?_
  have hS₃ := Heap.get?_update_self (Obj.mapSeq (·.pop)) hS₂ rfl
  refine wpAny_pure ⟨plainId_quiet PySem.F.plain_extend_loop _, key _ _ _ (fun b o hb e => ?_) hS₃⟩
  exact (Heap.get?_update_other _ _ (Ne.symm hb)).trans ((Heap.get?_update_other _ _ (Ne.symm hb)).trans e)
theorem lz_init {R : Result → Shared → Prop} {S : Addr} (Sp : ZipSep2 z TI TO i1 i2 fp1 fp2) (D1 : Draws prog w A.in1.in1 i1 fp1 n P1 St1) (D2 : Draws prog w A.in1.in1 i2 fp2 n P2 St2) (zS : z < S) (tS : TO < S) (c1 : TI ≠ S) (s1 : i1 < S) (s2 : i2 < S) (c4 : S ∉ fp1) (c5 : S ∉ fp2) (hn : n ≤ sizeLine)
    (hz : IsZip s.heap z TI TO .none) (hst : ZSt s.heap z TI TO i1 i2 S St1 St2 0) (hS : s.heap.get? S = some { cls := .type "list", data := .seq #[] })
    (hR : ∀ h' tk acc c as, (∀ b o, b ≠ S → b ≠ z → b ≠ TO → b ≠ i1 → b ≠ i2 → s.heap.get? b = some o → h'.get? b = some o) → h'.get? S = some { cls := .type "list", dict := none, data := .seq acc c, slots := #[] } → as.length = n → LzG P1 P2 S h' as →
      acc.toList = as.map Value.ref → R (.ok (.ret .none)) { s with heap := h', toks := tk }) :
    wpAny (model prog w) A.in1 (Builtin.«list.__init__» ⟨[.ref S, .ref z], []⟩)
      (fun fin s' => match fin with | .done f => R (.ok f) s' | .again c' => c'.quiet = true ∧ codeAny (model prog w) A c' R s') (fun e s' => R (.error e) s') s := by
  show wpAny _ _ (do let old ← Builtin.List.listItems (.ref S); Builtin.List.listUpdate (.ref S) (fun _ => #[]); letGo old.toList.reverse; Builtin.List.listExtendWith (.ref S) (.ref z) .none) _ _ s
  refine wpAny_bind ?_
  unfold Builtin.List.listItems
  refine wpAny_bind (wpAny_seqItems hS rfl (wpAny_pure ?_))
  show wpAny _ _ (updateSeq S (fun _ => #[]) >>= fun _ => letGo (#[] : Array Value).toList.reverse >>= fun _ => Builtin.List.listExtendWith (.ref S) (.ref z) .none) _ _ s
  refine wpAny_bind (wpAny_updateSeq hS rfl ?_)
  have hS₂ := Heap.get?_update_self (Obj.mapSeq (fun _ => (#[] : Array Value))) hS rfl
  have oth : ∀ b o, b ≠ S → s.heap.get? b = some o → (s.heap.update S (Obj.mapSeq (fun _ => (#[] : Array Value)))).get? b = some o :=
    fun b o hb e => (Heap.get?_update_other _ _ (Ne.symm hb)).trans e
  refine wpAny_bind (wpAny_letGo ?_)
  refine lz_extend Sp D1 D2 zS tS c1 s1 s2 c4 c5 hn (oth _ _ (Nat.ne_of_lt zS) hz) (zst_keep Sp D1 D2 hst oth c1 (Nat.ne_of_lt zS) (Nat.ne_of_lt tS) c4 c5) .none _ hS₂ (fun h' tk acc c as hk hS' hl hG hacc => ?_)
  exact hR h' tk acc c as (fun b o hb k2 k3 k4 k5 e => hk b o hb k2 k3 k4 k5 (oth b o hb e)) hS' hl hG hacc
theorem lz_call {Q : Value → Shared → Prop} (Sp : ZipSep2 z TI TO i1 i2 fp1 fp2) (D1 : Draws prog w A.in1.in1.in1 i1 fp1 n P1 St1) (D2 : Draws prog w A.in1.in1.in1 i2 fp2 n P2 St2) (hlt : z < s.heap.objs.size ∧ TO < s.heap.objs.size ∧ TI < s.heap.objs.size ∧ i1 < s.heap.objs.size ∧ i2 < s.heap.objs.size) (c4 : ∀ b ∈ fp1, b < s.heap.objs.size) (c5 : ∀ b ∈ fp2, b < s.heap.objs.size) (hn : n ≤ sizeLine)
    (hz : IsZip s.heap z TI TO .none) (hTO : ∃ a1 a2, IsTupOf2 s.heap TO a1 a2) (hTI : IsTupOf2 s.heap TI (.ref i1) (.ref i2)) (st1 : St1 0 s.heap) (st2 : St2 0 s.heap)
    (hQ : ∀ h' tk acc c as, (∀ b o, b ≠ z → b ≠ TO → b ≠ i1 → b ≠ i2 → s.heap.get? b = some o → h'.get? b = some o) → h'.get? s.heap.objs.size = some { cls := .type "list", dict := none, data := .seq acc c, slots := #[] } → as.length = n → LzG P1 P2 s.heap.objs.size h' as →
      acc.toList = as.map Value.ref → Q (.ref s.heap.objs.size) { s with heap := h', toks := tk }) :
    wpAny (model prog w) A (call (.type "list") [.ref z]) Q E s := by
  refine callType_codes (Q₁ := fun obj s₁ => obj = .ref s.heap.objs.size ∧ s₁ = { s with heap := s.heap.push { cls := .type "list", data := .seq #[] } }) PySem.F.called_list (PySem.F.typeCall_list_1 _) PySem.F.entry_list_init
    (code_list_new _ ⟨rfl, rfl⟩) fun obj s₁ h₁ => ?_
  obtain ⟨rfl, rfl⟩ := h₁
  have hS : (s.heap.push { cls := .type "list", data := .seq #[] }).get? s.heap.objs.size = some { cls := .type "list", data := .seq #[] } := Heap.get?_push_size _ rfl
  obtain ⟨a1, a2, hTO⟩ := hTO
  obtain ⟨l1, l2, l3, l4, l5⟩ := hlt
  have up : ∀ b o, s.heap.get? b = some o → (s.heap.push { cls := .type "list", data := .seq #[] }).get? b = some o := fun b o e => Heap.get?_push_of_some _ e
  refine ⟨⟨_, hS, rfl⟩, PySem.F.args_list_init_2 _ _, lz_init (A := A.in1) (s := { s with heap := s.heap.push { cls := .type "list", data := .seq #[] } }) Sp D1 D2 l1 l2 (Nat.ne_of_lt l3) l4 l5 (fun q => absurd (c4 _ q) (Nat.lt_irrefl _)) (fun q => absurd (c5 _ q) (Nat.lt_irrefl _)) hn (up _ _ hz)
    ⟨up _ _ hTI, D1.frame _ _ _ st1 fun b _ o e => up b o e, D2.frame _ _ _ st2 fun b _ o e => up b o e, .inl ⟨up _ _ hz, a1, a2, up _ _ hTO⟩⟩ hS (fun h' tk acc c as hk hS' hl hG hacc => ?_)⟩
  exact ⟨rfl, hQ h' tk acc c as (fun b o k2 k3 k4 k5 e => hk b o (Nat.ne_of_lt (Heap.lt_size e)) k2 k3 k4 k5 (up _ _ e)) hS' hl hG hacc⟩
end
end Lzp

namespace Lzp
open PySem PySem.Spec PyProof.Rows L2
/-- tuples tracked at their addresses -/
def putL : Hp → List Addr → List (List V) → Hp
  | H, a :: as, p :: ps => putL (upd H a (.tup p)) as ps
  | H, _, _ => H
theorem putL_off {b : Addr} : ∀ (as : List Addr) (ps : List (List V)) (H : Hp), b ∉ as → putL H as ps b = H b
  | [], _, _, _ => rfl
  | _ :: _, [], _, _ => rfl
  | a :: as, p :: ps, H, h => by
    show putL (upd H a (.tup p)) as ps b = H b
    rw [putL_off as ps _ (fun z => h (List.mem_cons_of_mem _ z)), upd_ne (fun z => h (by rw [z]; exact List.mem_cons_self))]
theorem putL_at : ∀ (as : List Addr) (ps : List (List V)) (H : Hp), as.length = ps.length → as.Nodup → ∀ (i : Nat) (a : Addr), as[i]? = some a → ∃ p, ps[i]? = some p ∧ putL H as ps a = some (.tup p)
  | [], [], _, _, _, _, _, e => by simp at e
  | [], _ :: _, _, h, _, _, _, _ => by cases h
  | _ :: _, [], _, h, _, _, _, _ => by cases h
  | a :: as, p :: ps, H, h, hn, i, b, e => by
    have hn' := List.nodup_cons.mp hn
    cases i with
    | zero =>
      have e : a = b := Option.some.inj e
      subst e
      exact ⟨p, rfl, by show putL (upd H a (.tup p)) as ps a = _; rw [putL_off as ps _ hn'.1, upd_same]⟩
    | succ i => exact putL_at as ps (upd H a (.tup p)) (Nat.succ.inj h) hn'.2 i b e
theorem laid_list {X : Cx} {pins : List (Addr × Obj)} {σ : L2.St} {H : Hp} {s : Shared} {h' : Heap} {tk : Nat} {acc : Array Value} {c : Nat} {L : Addr} {as : List Addr} {ps : List (List V)} (I : Inv X pins σ H s) (hz : as.length ≤ sizeLine) (hp2 : ∀ p ∈ ps, p.length ≤ sizeLine) (hk : ∀ b o, s.heap.get? b = some o → h'.get? b = some o)
    (hL : s.heap.objs.size ≤ L) (hS : h'.get? L = some { cls := .type "list", dict := none, data := .seq acc c, slots := #[] }) (hl : as.length = ps.length) (rise : as.Pairwise (· < ·)) (above : ∀ a ∈ as, L < a)
    (tups : ∀ (i : Nat) (a : Addr), as[i]? = some a → ∃ p us, ps[i]? = some p ∧ Vals p us ∧ h'.get? a = some { cls := .type "tuple", data := .seq us.toArray }) (hacc : acc.toList = as.map Value.ref) :
    ∃ H' : Hp, (∀ b o, H b = some o → H' b = some o) ∧ H L = none ∧ (∀ t ∈ as, H t = none) ∧ L ∉ as ∧ H' L = some (.lst (as.map V.ref)) ∧ (∀ (i : Nat) (a : Addr), as[i]? = some a → ∃ p, ps[i]? = some p ∧ H' a = some (.tup p)) ∧ Inv X pins σ H' { s with heap := h', toks := tk } := by
  have hSn : L ∉ as := fun z => Nat.lt_irrefl _ (above _ z)
  have nd : as.Nodup := List.Pairwise.imp (fun {a b} (h : a < b) => Nat.ne_of_lt h) rise
  have new : ∀ t ∈ as, H t = none := fun t ht => I.hok.fresh (Nat.le_trans hL (Nat.le_of_lt (above t ht)))
  have newS : H L = none := I.hok.fresh hL
  have atP := putL_at as ps (upd H L (.lst (as.map V.ref))) hl nd
  have off : ∀ b, b ∉ as → b ≠ L → putL (upd H L (.lst (as.map V.ref))) as ps b = H b := fun b h1 h2 => by rw [putL_off as ps _ h1, upd_ne h2]
  have low : ∀ b o, s.heap.get? b = some o → b ∉ as ∧ b ≠ L := fun b o e => ⟨fun z => absurd (Heap.lt_size e) (Nat.not_lt.mpr (Nat.le_trans hL (Nat.le_of_lt (above b z)))), fun z => absurd (Heap.lt_size e) (Nat.not_lt.mpr (by rw [z]; exact hL))⟩
  have kp : ∀ b u, H b = some u → (putL (upd H L (.lst (as.map V.ref))) as ps) b = some u := fun b u e => by
    rw [off b (fun z => by rw [new b z] at e; cases e) (fun z => by rw [z, newS] at e; cases e)]
    exact e
  have eS : putL (upd H L (.lst (as.map V.ref))) as ps L = some (.lst (as.map V.ref)) := by rw [putL_off as ps _ hSn, upd_same]
  refine ⟨putL (upd H L (.lst (as.map V.ref))) as ps, kp, newS, new, hSn, eS, atP, ?_⟩
  refine I.call' (ch := []) rfl ⟨fun b o q _ _ _ => hk b o q, fun b o q _ _ _ => ⟨o.slots, hk b o q⟩, fun b o q n _ => ?_, fun b o q _ => ⟨o, hk b o q⟩, fun b xs q => kp b _ q, fun b o u q => kp b _ q, fun b ps q => ⟨#[], by rw [kp b _ q]; simp⟩⟩ (fun b u q => ?_) I.bare fun b z => by simp at z
  · obtain ⟨z1, z2⟩ := low b o q
    rw [off b z1 z2]
    exact n
  · by_cases hb : b ∈ as
    · obtain ⟨j, hj⟩ := List.mem_iff_getElem?.mp hb
      obtain ⟨p, e1, e2⟩ := atP j b hj
      rw [e2] at q
      cases q
      obtain ⟨p', us, f1, f2, f3⟩ := tups j b hj
      rw [e1] at f1
      cases f1
      exact ⟨hp2 p (List.mem_of_getElem? e1), us, f2, ⟨_, f3, rfl, _, rfl⟩⟩
    · by_cases hb2 : b = L
      · rw [hb2] at q ⊢
        rw [eS] at q
        cases q
        refine ⟨by rw [List.length_map]; exact hz, acc.toList, c, by rw [hacc]; exact LiI.vals_refs as, ?_⟩
        rw [Array.toArray_toList]
        exact hS
      · rw [off b hb hb2] at q
        exact (I.hok b u q).stay (fun d v _ y => hk d v y) (fun d y => kp d _ y) fun d xs y => kp d _ y
def tListZip (K : PySem.W.Frag) (ta : TA) : TE := fun σ H Q => ta σ H fun vs H1 => ∃ a b xs ys, vs = [.ref a, .ref b] ∧ SqL K H1 a xs ∧ SqT K H1 b ys ∧ xs.length = ys.length ∧ xs.length ≤ sizeLine ∧
  ∀ (H' : Hp) (l : Addr) (ts : List Addr), (∀ b o, H1 b = some o → H' b = some o) → H1 l = none → (∀ t ∈ ts, H1 t = none) → l ∉ ts → H' l = some (.lst (ts.map V.ref)) → ts.length = xs.length → (∀ (i : Nat) (t : Addr), ts[i]? = some t → ∃ x y, xs[i]? = some x ∧ ys[i]? = some y ∧ H' t = some (.tup [x, y])) → Q (.ref l) H'
theorem vals_get {xs : List V} {us : List Value} (r : Vals xs us) : ∀ {i : Nat} {u : Value}, us[i]? = some u → ∃ x, xs[i]? = some x ∧ RelV x u := by
  induction r with
  | nil => intro i u h; simp at h
  | cons a t ih =>
    intro i u h
    cases i with
    | zero => cases h; exact ⟨_, rfl, a⟩
    | succ i => exact ih (i := i) h
theorem pe_listZip {X : Cx} {K : PySem.W.Frag} {e e2 : Expr} {ta : TA} {p p2 pos mpos : Pos} (hK : X.K = K) (hc : X.calm = true) (ha : PA X [e, e2] ta) (hg : Gl X "zip") (hm : X.mg "zip" = none) (hg2 : Gl X "list") (hm2 : X.mg "list" = none) (hv : bootBuiltins "list" = some (.type "list"))
    (hs : starEach [e, e2] X.env = (false, eval e X.env) :: starEach [e2] X.env := by rfl) (hpl : (backTo mpos (starEach [e2] X.env)).any (·.1) = false := by rfl)
    (hs2 : starEach [.Call (.Name "zip" p2) [e, e2] [] mpos] X.env = (false, eval (.Call (.Name "zip" p2) [e, e2] [] mpos) X.env) :: starEach [] X.env := by rfl) :
    PE X (.Call (.Name "list" p) [.Call (.Name "zip" p2) [e, e2] [] mpos] [] pos) (tListZip K ta) := by
  subst hK
  refine ⟨fun pins s σ H Q I h => ?_⟩
  refine wpAny_Call_Name_kw (ld_blt I hg2 hm2 hv ?_)
  refine PyProof.Rows.callWith_type1 ?_ hs2 rfl
  rw [hs2]
  show wpAny _ _ (spliced ((false, eval (.Call (.Name "zip" p2) [e, e2] [] mpos) X.env) :: backTo pos (starEach [] X.env))) _ _ s
  refine Calls.spliced_cons ?_
  refine Call_ (ld_blt I hg hm PyProof.Rows.boot_zip (PyProof.Rows.callWith_type1 (thn (ha.run mpos pins s σ H _ I h) fun us s1 ⟨vs, H1, I1, r1, q1⟩ => ?_) hs hpl))
  obtain ⟨a, b, xs, ys, ex, hqx, hqy, hl, hz, q⟩ := q1
  subst ex
  cases r1 with
  | cons r rr =>
    cases rr with
    | cons r' rr =>
      cases rr
      cases r
      cases r'
      obtain ⟨its, rv, p1, _⟩ := I1.list hqx
      obtain ⟨its2, rv2, p2', _⟩ := I1.tuple hqy
      obtain ⟨o2, ho2, _⟩ := id p2'
      have la : a < s1.heap.objs.size := p1.lt
      have lb : b < s1.heap.objs.size := Heap.lt_size ho2
      have li : its.toArray.size = its2.toArray.size := by rw [List.size_toArray, List.size_toArray, ← rv.length, ← rv2.length]; exact hl
      have ln : its.toArray.size ≤ sizeLine := by rw [List.size_toArray, ← rv.length]; exact hz
      have pT : s1.heap.IsTuple b its2.toArray := p2'
      refine zip_begins2 (begins_list a its.toArray) (begins_tuple b its2.toArray) p1.isList pT fun h' iz hTI hTO h1 h2 hsz hk => ?_
      have hh : X.A.handled = none := I.ok.hd hc
      refine Calls.spliced_nil ?_
      have D1 : Draws X.prog X.w X.A.in1.in1.in1 s1.heap.objs.size [s1.heap.objs.size, a] its.toArray.size _ _ := Draws.list (A := X.A.in1.in1.in1) hh s1.heap.objs.size a (Nat.ne_of_lt la) its.toArray
      have D2 : Draws X.prog X.w X.A.in1.in1.in1 (s1.heap.objs.size + 1) [s1.heap.objs.size + 1, b] its2.toArray.size _ _ := Draws.tuple (A := X.A.in1.in1.in1) hh (s1.heap.objs.size + 1) b (Nat.ne_of_lt (Nat.lt_succ_of_lt lb)) its2.toArray
      rw [← li] at D2
      have Sp := zip_sep2 (N := s1.heap.objs.size) (fp1 := [a]) (fp2 := [b]) (fun c h => by rw [List.mem_singleton.mp h]; exact la) (fun c h => by rw [List.mem_singleton.mp h]; exact lb)
      have N : ∀ k, k < 5 → s1.heap.objs.size + k < h'.objs.size := fun k hk => by rw [hsz]; exact Nat.add_lt_add_left hk _
      have up : ∀ c, c < s1.heap.objs.size → c < h'.objs.size := fun c hc => Nat.lt_trans hc (N 0 (by decide))
      have nz : ∀ {c : Addr} {o : Obj} (k : Nat), s1.heap.get? c = some o → c ≠ s1.heap.objs.size + k := fun k e z => absurd (Heap.lt_size e) (by rw [z]; exact Nat.not_lt.mpr (Nat.le_add_right _ _))
      have st2 : (fun i h => Heap.IsTupleIter h (s1.heap.objs.size + 1) b i ∧ Heap.IsTuple h b its2.toArray) 0 h' := ⟨⟨_, h2, rfl, rfl⟩, Heap.IsTuple.at pT fun o e => hk b o e⟩
      refine lz_call (s := { s1 with heap := h' }) (A := X.A) Sp D1 D2 ⟨N 4 (by decide), N 3 (by decide), N 2 (by decide), N 0 (by decide), N 1 (by decide)⟩ (fun c hcm => ?_) (fun c hcm => ?_) ln iz ⟨_, _, hTO⟩ hTI ⟨⟨_, h1, rfl, rfl⟩, p1.isList.at fun o e => hk a o e⟩ st2 fun h'' tk acc cc as hk2 hS hal hG hacc => ?_
      · rcases List.mem_cons.mp hcm with z | z
        · rw [z]; exact N 0 (by decide)
        · rw [List.mem_singleton.mp z]; exact up _ la
      · rcases List.mem_cons.mp hcm with z | z
        · rw [z]; exact N 1 (by decide)
        · rw [List.mem_singleton.mp z]; exact up _ lb
      have halx : as.length = xs.length := by rw [hal, List.size_toArray, ← rv.length]
      obtain ⟨H', k1, k2, k3, k4, k5, k6, J⟩ := laid_list (s := s1) (tk := tk) (L := h'.objs.size) (as := as) (ps := List.zipWith (fun x y => [x, y]) xs ys) I1 (by rw [halx]; exact hz) (fun p hp => by
          obtain ⟨i, hi⟩ := List.mem_iff_getElem?.mp hp
          rw [List.getElem?_zipWith] at hi
          split at hi
          · cases hi; exact (by decide : 2 ≤ sizeLine)
          · cases hi) (fun c o e => hk2 c o (nz 4 e) (nz 3 e) (nz 0 e) (nz 1 e) (hk c o e)) (by rw [hsz]; exact Nat.le_add_right _ _) hS (by rw [List.length_zipWith, ← hl, Nat.min_self]; exact halx) hG.rise hG.above (fun i t ht => by
          obtain ⟨x1, x2, e1, e2, e3⟩ := hG.pairs i t ht
          have e1 : its[i]? = some x1 := by rw [← List.getElem?_toArray]; exact e1
          have e2 : its2[i]? = some x2 := by rw [← List.getElem?_toArray]; exact e2
          obtain ⟨y1, f1, g1⟩ := vals_get rv e1
          obtain ⟨y2, f2, g2⟩ := vals_get rv2 e2
          refine ⟨[y1, y2], [x1, x2], by rw [List.getElem?_zipWith, f1, f2], .cons g1 (.cons g2 .nil), e3⟩) hacc
      refine ⟨.ref _, H', J, rfl, q H' _ as k1 k2 k3 k4 k5 halx fun i t ht => ?_⟩
      obtain ⟨p, e1, e2⟩ := k6 i t ht
      rw [List.getElem?_zipWith] at e1
      split at e1
      · rename_i x y f1 f2
        cases e1
        exact ⟨x, y, f1, f2, e2⟩
      · cases e1
end Lzp
local macro_rules | `(tactic| walk_at "hl") => `(tactic| first | assumption | exact L2.upd_same | (refine Bx.sat (by assumption) ?_; walk_at "hl"))
local macro_rules | `(tactic| walk_at "bx") => `(tactic| repeat (first
  | refine ⟨_, rfl, ?_⟩
  | refine ⟨_, _, rfl, rfl, ?_⟩
  | refine ⟨rfl, ?_⟩
  | refine Or.inl ⟨_, rfl, ?_⟩
  | refine ⟨Or.inr ⟨by decide, by decide⟩, ?_⟩
  | refine ⟨Or.inl ⟨by decide, by decide⟩, ?_⟩
  | refine ⟨(show (0 : Int) < _ by decide), ?_⟩
  | refine ⟨⟨by decide, by decide⟩, ?_⟩
  | refine ⟨_, _, rfl, Or.inl (L2.SqL.of (by walk_at "hl")), ?_⟩
  | refine ⟨_, _, rfl, Or.inr (L2.SqT.of (by walk_at "hl")), ?_⟩
  | refine ⟨Or.inl ⟨rfl, _, L2.SqL.of (by walk_at "hl")⟩, ?_⟩
  | refine ⟨_, _, _, rfl, rfl, (by walk_at "hl"), ?_⟩
  | refine ⟨_, _, rfl, rfl, (by walk_at "hl"), ?_⟩
  | refine ⟨_, _, _, _, rfl, rfl, L2.SqT.of (by walk_at "hl"), (by walk_at "hl"), ?_⟩
  | refine ⟨_, _, _, _, rfl, rfl, L2.SqL.of (by walk_at "hl"), (by walk_at "hl"), ?_⟩
  | refine ⟨_, _, rfl, Bx.SeqI.sq (by walk_at "hl"), ?_⟩
  | refine And.intro (by walk_at "hl") ?_))
local macro_rules | `(tactic| walk_at "nl") => `(tactic| ((try unfold L2.tNil); (try unfold L2.tNoPart)))

namespace My
open PySem PySem.Spec PyProof.Rows L2 Bx Tx Tz
def topS (i : Nat) : Stmt := PySem.Challenge.pw_reactivesynth_k40_play.main.body.getD i (.Pass ⟨0, 0, 0, 0⟩)
abbrev s_shortest_lasso : Stmt := topS 8
abbrev N_shortest_lasso : List Str := ["head", "loop", "size", "kept", "cut"]
theorem sc_shortest_lasso : FnScope N_shortest_lasso ["head", "loop"] (defScope s_shortest_lasso) := ⟨rfl, rfl, rfl, by decide +kernel, rfl, by decide +kernel, by decide +kernel⟩
abbrev s_shortest_period : Stmt := topS 9
abbrev N_shortest_period : List Str := ["loop", "borders", "border", "at", "size"]
theorem sc_shortest_period : FnScope N_shortest_period ["loop"] (defScope s_shortest_period) := ⟨rfl, rfl, rfl, by decide +kernel, rfl, by decide +kernel, by decide +kernel⟩
abbrev s_letter_at : Stmt := topS 10
abbrev N_letter_at : List Str := ["lasso", "turn", "head", "loop"]
theorem sc_letter_at : FnScope N_letter_at ["lasso", "turn"] (defScope s_letter_at) := ⟨rfl, rfl, rfl, by decide +kernel, rfl, by decide +kernel, by decide +kernel⟩
abbrev s_suffix : Stmt := topS 11
abbrev N_suffix : List Str := ["lasso", "turns", "head", "loop", "cut"]
theorem sc_suffix : FnScope N_suffix ["lasso", "turns"] (defScope s_suffix) := ⟨rfl, rfl, rfl, by decide +kernel, rfl, by decide +kernel, by decide +kernel⟩
abbrev s_check_letters : Stmt := topS 12
abbrev N_check_letters : List Str := ["lasso", "letters", "head", "loop"]
theorem sc_check_letters : FnScope N_check_letters ["lasso", "letters"] (defScope s_check_letters) := ⟨rfl, rfl, rfl, by decide +kernel, rfl, by decide +kernel, by decide +kernel⟩
abbrev s_combine : Stmt := topS 13
abbrev N_combine : List Str := ["first", "second", "size", "short_first", "short_second", "start", "turns", "letters", "turn"]
theorem sc_combine : FnScope N_combine ["first", "second", "size"] (defScope s_combine) := ⟨rfl, rfl, rfl, by decide +kernel, rfl, by decide +kernel, by decide +kernel⟩
abbrev s_play : Stmt := topS 15
abbrev N_play : List Str := ["machine", "opponent", "pairs", "back", "letters", "said", "heard"]
theorem sc_play : FnScope N_play ["machine", "opponent"] (defScope s_play) := ⟨rfl, rfl, rfl, by decide +kernel, rfl, by decide +kernel, by decide +kernel⟩
abbrev s_exchange : Stmt := topS 16
abbrev N_exchange : List Str := ["listener", "speaker", "waiting", "here", "letter", "_", "there", "seen", "pairs", "now", "reply", "following"]
theorem sc_exchange : FnScope N_exchange ["listener", "speaker"] (defScope s_exchange) := ⟨rfl, rfl, rfl, by decide +kernel, rfl, by decide +kernel, by decide +kernel⟩
abbrev s_check_rows : Stmt := topS 21
abbrev N_check_rows : List Str := ["rows", "inputs", "row", "target", "_"]
theorem sc_check_rows : FnScope N_check_rows ["rows", "inputs"] (defScope s_check_rows) := ⟨rfl, rfl, rfl, by decide +kernel, rfl, by decide +kernel, by decide +kernel⟩
abbrev s_check_said : Stmt := topS 22
abbrev N_check_said : List Str := ["letters", "outputs", "letter"]
theorem sc_check_said : FnScope N_check_said ["letters", "outputs"] (defScope s_check_said) := ⟨rfl, rfl, rfl, by decide +kernel, rfl, by decide +kernel, by decide +kernel⟩
abbrev s_run : Stmt := topS 23
abbrev N_run : List Str := ["machine", "state", "heard", "emitted", "letter", "said"]
theorem sc_run : FnScope N_run ["machine", "state", "heard"] (defScope s_run) := ⟨rfl, rfl, rfl, by decide +kernel, rfl, by decide +kernel, by decide +kernel⟩
abbrev s_respond : Stmt := topS 24
abbrev N_respond : List Str := ["machine", "lasso", "head", "loop", "state", "emitted", "begins", "more", "back", "word"]
theorem sc_respond : FnScope N_respond ["machine", "lasso"] (defScope s_respond) := ⟨rfl, rfl, rfl, by decide +kernel, rfl, by decide +kernel, by decide +kernel⟩
abbrev s_trace : Stmt := topS 25
abbrev N_trace : List Str := ["machine", "lasso"]
theorem sc_trace : FnScope N_trace ["machine", "lasso"] (defScope s_trace) := ⟨rfl, rfl, rfl, by decide +kernel, rfl, by decide +kernel, by decide +kernel⟩
abbrev s_law_draws : Stmt := topS 27
abbrev N_law_draws : List Str := ["script", "count", "cells", "found", "mixed", "k", "j", "cell", "again"]
theorem sc_law_draws : FnScope N_law_draws ["script", "count"] (defScope s_law_draws) := ⟨rfl, rfl, rfl, by decide +kernel, rfl, by decide +kernel, by decide +kernel⟩
abbrev s_law_take : Stmt := topS 28
abbrev N_law_take : List Str := ["draws", "limit"]
theorem sc_law_take : FnScope N_law_take ["draws", "limit"] (defScope s_law_take) := ⟨rfl, rfl, rfl, by decide +kernel, rfl, by decide +kernel, by decide +kernel⟩
abbrev s_law_is_integer : Stmt := topS 29
abbrev N_law_is_integer : List Str := ["actual"]
theorem sc_law_is_integer : FnScope N_law_is_integer ["actual"] (defScope s_law_is_integer) := ⟨rfl, rfl, rfl, by decide +kernel, rfl, by decide +kernel, by decide +kernel⟩
abbrev s_law_integers : Stmt := topS 30
abbrev N_law_integers : List Str := ["actual", "low", "high", "item"]
theorem sc_law_integers : FnScope N_law_integers ["actual", "low", "high"] (defScope s_law_integers) := ⟨rfl, rfl, rfl, by decide +kernel, rfl, by decide +kernel, by decide +kernel⟩
abbrev s_law_normal : Stmt := topS 31
abbrev N_law_normal : List Str := ["lasso", "head", "loop", "period"]
theorem sc_law_normal : FnScope N_law_normal ["lasso"] (defScope s_law_normal) := ⟨rfl, rfl, rfl, by decide +kernel, rfl, by decide +kernel, by decide +kernel⟩
abbrev s_law_is_lasso : Stmt := topS 32
abbrev N_law_is_lasso : List Str := ["actual", "letters"]
theorem sc_law_is_lasso : FnScope N_law_is_lasso ["actual", "letters"] (defScope s_law_is_lasso) := ⟨rfl, rfl, rfl, by decide +kernel, rfl, by decide +kernel, by decide +kernel⟩
abbrev s_law_at : Stmt := topS 33
abbrev N_law_at : List Str := ["lasso", "turn"]
theorem sc_law_at : FnScope N_law_at ["lasso", "turn"] (defScope s_law_at) := ⟨rfl, rfl, rfl, by decide +kernel, rfl, by decide +kernel, by decide +kernel⟩
abbrev s_law_same : Stmt := topS 34
abbrev N_law_same : List Str := ["first", "second", "limit", "turn"]
theorem sc_law_same : FnScope N_law_same ["first", "second"] (defScope s_law_same) := ⟨rfl, rfl, rfl, by decide +kernel, rfl, by decide +kernel, by decide +kernel⟩
abbrev s_law_flat : Stmt := topS 35
abbrev N_law_flat : List Str := ["rows", "row"]
theorem sc_law_flat : FnScope N_law_flat ["rows"] (defScope s_law_flat) := ⟨rfl, rfl, rfl, by decide +kernel, rfl, by decide +kernel, by decide +kernel⟩
abbrev s_law_machine : Stmt := topS 36
abbrev N_law_machine : List Str := ["draws", "inputs", "outputs", "lead", "most", "count", "opening", "rows", "state", "row", "letter", "target", "k"]
theorem sc_law_machine : FnScope N_law_machine ["draws", "inputs", "outputs", "lead", "most"] (defScope s_law_machine) := ⟨rfl, rfl, rfl, by decide +kernel, rfl, by decide +kernel, by decide +kernel⟩
abbrev s_law_play : Stmt := topS 37
abbrev N_law_play : List Str := ["rows", "opening", "lead", "inputs", "other_rows", "other_opening", "heard", "said", "state", "other", "one", "two", "letters", "seen", "turn", "k", "pair", "now"]
theorem sc_law_play : FnScope N_law_play ["rows", "opening", "lead", "inputs", "other_rows", "other_opening"] (defScope s_law_play) := ⟨rfl, rfl, rfl, by decide +kernel, rfl, by decide +kernel, by decide +kernel⟩
abbrev s_law_turn_letters : Stmt := topS 38
abbrev N_law_turn_letters : List Str := ["lasso", "inputs", "outputs", "head", "loop", "letter"]
theorem sc_law_turn_letters : FnScope N_law_turn_letters ["lasso", "inputs", "outputs"] (defScope s_law_turn_letters) := ⟨rfl, rfl, rfl, by decide +kernel, rfl, by decide +kernel, by decide +kernel⟩
abbrev s_law_outcome : Stmt := topS 39
abbrev N_law_outcome : List Str := ["machine", "opponent"]
theorem sc_law_outcome : FnScope N_law_outcome ["machine", "opponent"] (defScope s_law_outcome) := ⟨rfl, rfl, rfl, by decide +kernel, rfl, by decide +kernel, by decide +kernel⟩
abbrev s_law : Stmt := topS 40
abbrev N_law : List Str := ["script", "draws", "inputs", "outputs", "lead", "opening", "rows", "machine", "wrong", "sizes", "fits", "first", "table", "opponent", "found", "other", "heard", "letter"]
theorem sc_law : FnScope N_law ["script"] (defScope s_law) := ⟨rfl, rfl, rfl, by decide +kernel, rfl, by decide +kernel, by decide +kernel⟩
abbrev s_Machine_init : Stmt := inClass (topS 20) 0
abbrev N_Machine_init : List Str := ["self", "inputs", "outputs", "lead", "opening", "rows", "row", "_", "letter", "target"]
theorem sc_Machine_init : FnScope N_Machine_init ["self", "inputs", "outputs", "lead", "opening", "rows"] (defScope s_Machine_init) := ⟨rfl, rfl, rfl, by decide +kernel, rfl, by decide +kernel, by decide +kernel⟩
abbrev s_Machine_call : Stmt := inClass (topS 20) 1
abbrev N_Machine_call : List Str := ["self", "heard", "letter", "said", "_", "emitted"]
theorem sc_Machine_call : FnScope N_Machine_call ["self", "heard"] (defScope s_Machine_call) := ⟨rfl, rfl, rfl, by decide +kernel, rfl, by decide +kernel, by decide +kernel⟩
structure Has (K : PySem.W.Frag) (mg : Str → Option Value) (x : Str) (st : Stmt) (ps : List Str) : Prop where
  ex : ∃ (f : Addr) (fd : FuncData), L2.Fun K x x st f fd ∧ mg x = some (.ref f) ∧ Binds K fd ps []
structure Txt (K : PySem.W.Frag) (mg : Str → Option Value) : Prop where
  h_shortest_lasso : Has K mg "shortest_lasso" s_shortest_lasso ["head", "loop"]
  h_shortest_period : Has K mg "shortest_period" s_shortest_period ["loop"]
  h_letter_at : Has K mg "letter_at" s_letter_at ["lasso", "turn"]
  h_suffix : Has K mg "suffix" s_suffix ["lasso", "turns"]
  h_check_letters : Has K mg "check_letters" s_check_letters ["lasso", "letters"]
  h_combine : Has K mg "combine" s_combine ["first", "second", "size"]
  h_play : Has K mg "play" s_play ["machine", "opponent"]
  h_exchange : Has K mg "exchange" s_exchange ["listener", "speaker"]
  h_check_rows : Has K mg "check_rows" s_check_rows ["rows", "inputs"]
  h_check_said : Has K mg "check_said" s_check_said ["letters", "outputs"]
  h_run : Has K mg "run" s_run ["machine", "state", "heard"]
  h_respond : Has K mg "respond" s_respond ["machine", "lasso"]
  h_trace : Has K mg "trace" s_trace ["machine", "lasso"]
  h_law_draws : Has K mg "_law_draws" s_law_draws ["script", "count"]
  h_law_take : Has K mg "_law_take" s_law_take ["draws", "limit"]
  h_law_is_integer : Has K mg "_law_is_integer" s_law_is_integer ["actual"]
  h_law_integers : Has K mg "_law_integers" s_law_integers ["actual", "low", "high"]
  h_law_normal : Has K mg "_law_normal" s_law_normal ["lasso"]
  h_law_is_lasso : Has K mg "_law_is_lasso" s_law_is_lasso ["actual", "letters"]
  h_law_at : Has K mg "_law_at" s_law_at ["lasso", "turn"]
  h_law_same : Has K mg "_law_same" s_law_same ["first", "second"]
  h_law_flat : Has K mg "_law_flat" s_law_flat ["rows"]
  h_law_machine : Has K mg "_law_machine" s_law_machine ["draws", "inputs", "outputs", "lead", "most"]
  h_law_play : Has K mg "_law_play" s_law_play ["rows", "opening", "lead", "inputs", "other_rows", "other_opening"]
  h_law_turn_letters : Has K mg "_law_turn_letters" s_law_turn_letters ["lasso", "inputs", "outputs"]
  h_law_outcome : Has K mg "_law_outcome" s_law_outcome ["machine", "opponent"]
  z_bool : mg "bool" = none
  z_int : mg "int" = none
  z_isinstance : mg "isinstance" = none
  z_len : mg "len" = none
  z_list : mg "list" = none
  z_max : mg "max" = none
  z_range : mg "range" = none
  z_tuple : mg "tuple" = none
  er : ∃ (cX cI cL C fI fC : Addr) (fdI fdC : FuncData) (tk1 tk2 : Tok), ErrC K mg "Mismatch" cX ∧ ErrC K mg "InvalidMachine" cI ∧ ErrC K mg "InvalidLetter" cL ∧ MchC K C ∧ Mk K C fI ∧ mg "Machine" = some (.ref C) ∧ L2.Fun K "__init__" "Machine.__init__" s_Machine_init fI fdI ∧ Binds K fdI ["self", "inputs", "outputs", "lead", "opening", "rows"] [] ∧ StX.CallO K C fC ∧ L2.Fun K "__call__" "Machine.__call__" s_Machine_call fC fdC ∧ Binds K fdC ["self", "heard"] [] ∧ mg "LEAST_LEAD" = some (.int (-3) tk1) ∧ mg "GREATEST_LEAD" = some (.int 2 tk2) ∧ mg "lcm" = some (.builtin "math.lcm")

-- BODY
def spLaw (K : PySem.W.Frag) : Sp := fun vs H Q _ => ∃ (a : Addr) (ns : List Int), vs = [.ref a] ∧ SqL K H a (ns.map V.int) ∧ ns.length ≤ 63 ∧ ∀ H', Q (.bl true) H'
section
variable {P : Program} {w : World} {K : PySem.W.Frag} {mg : Str → Option Value} {base : Heap}
theorem ints_get {xs : List Int} {j : Nat} {y : V} (h : (xs.map V.int)[j]? = some y) : ∃ t, xs[j]? = some t ∧ y = V.int t := by
  rw [List.getElem?_map] at h
  cases e : xs[j]? with
  | none => rw [e] at h; cases h
  | some t => rw [e] at h; exact ⟨t, rfl, (Option.some.inj h).symm⟩
theorem snoc_get {α : Type} {xs : List α} {x y : α} {j : Nat} (h : (xs ++ [x])[j]? = some y) : (j < xs.length ∧ xs[j]? = some y) ∨ (j = xs.length ∧ y = x) := by
  rcases Nat.lt_or_ge j xs.length with c | c
  · rw [List.getElem?_append_left c] at h
    exact .inl ⟨c, h⟩
  · rw [List.getElem?_append_right c] at h
    have e : j - xs.length = 0 := by
      cases e : j - xs.length with
      | zero => rfl
      | succ m => rw [e] at h; cases h
    rw [e] at h
    cases h
    exact .inr ⟨by omega, rfl⟩
theorem ite_f {c : Bool} {A B : Prop} (h : c = false) (q : B) : if c = true then A else B := by
  rw [if_neg (by rw [h]; exact Bool.false_ne_true)]
  exact q
theorem ite_t {c : Bool} {A B : Prop} (h : c = true) (q : A) : if c = true then A else B := by
  rw [if_pos h]
  exact q
def CR (I : Int) (c : List (List (Int × Int))) : Prop := (∀ r ∈ c, (r.length : Int) = I) ∧ ∀ r ∈ c, ∀ p ∈ r, 0 ≤ p.1 ∧ p.1 < (c.length : Int)
def spChkRows (cI : Addr) : Sp := fun vs H Q E => ∃ (r : Addr) (as : List Addr) (c : List (List (Int × Int))) (I : Int), vs = [.ref r, .int I] ∧ LPr H r as c ∧ (¬ CR I c → E (.ref cI) none H) ∧ (CR I c → Q .non H)
theorem cal_chkrows {cI : Addr} (T : Txt K mg) (eI : ErrC K mg "InvalidMachine" cI) : CalX P w K mg base 1 "check_rows" (spChkRows cI) := by
  obtain ⟨f, fd, F, hm, hb⟩ := T.h_check_rows
  refine ⟨f, fd, _, F.okX sc_check_rows (fun vs H Q E h => ?_) (fun cdv A outer s H vs Q E hr h => ?_), hm, F.kp, hb⟩
  · obtain ⟨r, as, c, I, rfl, _⟩ := h
    rfl
  · obtain ⟨r, as, c, I, rfl, ⟨e1, R⟩, q1, q2⟩ := h
    refine ⟨_, (pss_cons
      (ps_for (passes_of rfl) rfl (pi_list (pv 0)) (pg_name (i := 2) sc_check_rows.nd rfl (.inl rfl)) (pss_one
      (ps_if (pt_cmpR op_ne (pe_callB (call_lenK (K := K) rfl) (by rfl) T.z_len PySem.boot_len (pa_cons (pv 2) pa_nil)) (pv 1) (nomark _)) (pss_one
      (ps_raise rfl (takes_of rfl rfl rfl rfl) (eI.made rfl))) pss_nil)))
      (pss_one
      (ps_for (passes_of rfl) rfl (pi_list (pv 0)) (pg_name (i := 2) sc_check_rows.nd rfl (.inl rfl)) (pss_one
      (ps_for (passes_of rfl) rfl (pi_list (pv 2)) (pg_tup (by rfl) (pgs_cons (pg_name (i := 3) sc_check_rows.nd rfl (.inl rfl)) (pgs_cons (pg_name (i := 4) sc_check_rows.nd rfl (.inl rfl)) pgs_nil))) (pss_one
      (ps_if (PW.pt (pw_or (pt_cmpR op_lt (pv 3) pe_int (nomark _)) (pw_or1 (pt_cmpR op_ge (pv 3) (pe_callB (call_lenK (K := K) rfl) (by rfl) T.z_len PySem.boot_len (pa_cons (pv 0) pa_nil)) (nomark _))))) (pss_one
      (ps_raise rfl (takes_of rfl rfl rfl rfl) (eI.made rfl))) pss_nil))))))), ?_⟩
    have hl2 : (as.map V.ref).length = c.length := by rw [List.length_map, R.len]
    refine ⟨_, rfl, r, rfl, ⟨_, .of e1⟩, for_list (K := K) (a := r) (xs := as.map V.ref) (fun i σ' H' => ∃ v2 v3 v4 : Option V, σ' = [some (.ref r), some (.int I), v2, v3, v4] ∧ H' = H ∧ ∀ q ∈ c.take i, (q.length : Int) = I)
      ⟨_, _, _, rfl, rfl, by simp⟩ (fun i σ' H' _ ⟨_, _, _, _, z, _⟩ => by rw [z]; exact .of e1) ?_ ?_⟩
    · rintro i v σ' H' hi ⟨v2, v3, v4, rfl, rfl, hall⟩
      obtain ⟨a, haa, rfl⟩ := refs_get hi
      obtain ⟨bs, row, hrow, hra, hbl, _⟩ := R.g i a haa
      have hmem := List.mem_of_getElem? hrow
      have hbl2 : (bs.map V.ref).length = row.length := by rw [List.length_map, hbl]
      refine ⟨_, rfl, a, _, rfl, .inl (.of hra), _, rfl, rfl, _, rfl, ite_ne (fun k => ?_) (fun k => ?_)⟩
      · exact q1 fun v => k (by rw [hbl2]; exact v.1 row hmem)
      · rw [hbl2] at k
        refine ⟨_, _, _, rfl, rfl, fun z hz => ?_⟩
        rw [take_get hrow] at hz
        rcases List.mem_append.mp hz with y | y
        · exact hall z y
        · rw [List.mem_singleton.mp y]; exact k
    · rintro σ' H' ⟨v2, v3, v4, rfl, rfl, hall⟩
      rw [hl2, List.take_length] at hall
      refine ⟨_, rfl, r, rfl, ⟨_, .of e1⟩, for_list (K := K) (a := r) (xs := as.map V.ref) (fun i σ' H2 => ∃ v2 v3 v4 : Option V, σ' = [some (.ref r), some (.int I), v2, v3, v4] ∧ H2 = H' ∧ ∀ q ∈ c.take i, ∀ p ∈ q, 0 ≤ p.1 ∧ p.1 < (c.length : Int))
        ⟨_, _, _, rfl, rfl, by simp⟩ (fun i σ' H' _ ⟨_, _, _, _, z, _⟩ => by rw [z]; exact .of e1) ?_ ?_⟩
      · rintro i v σ' H2 hi ⟨v2, v3, v4, rfl, rfl, hall2⟩
        obtain ⟨a, haa, rfl⟩ := refs_get hi
        obtain ⟨bs, row, hrow, hra, hbl, hR⟩ := R.g i a haa
        have hmem := List.mem_of_getElem? hrow
        have hbl2 : (bs.map V.ref).length = row.length := by rw [List.length_map, hbl]
        refine ⟨_, rfl, a, rfl, ⟨_, .of hra⟩, for_list (K := K) (a := a) (xs := bs.map V.ref) (fun j σ' H3 => ∃ v3 v4 : Option V, σ' = [some (.ref r), some (.int I), some (.ref a), v3, v4] ∧ H3 = H2 ∧ ∀ p ∈ row.take j, 0 ≤ p.1 ∧ p.1 < (c.length : Int))
          ⟨_, _, rfl, rfl, by simp⟩ (fun i σ' H' _ ⟨_, _, _, z, _⟩ => by rw [z]; exact .of hra) ?_ ?_⟩
        · rintro j v σ' H3 hj ⟨v3, v4, rfl, rfl, hall3⟩
          obtain ⟨b, hb, rfl⟩ := refs_get hj
          obtain ⟨t, l, he, hbe⟩ := hR j b hb
          refine ⟨b, _, rfl, .of hbe, rfl, _, _, rfl, _, _, rfl, rfl, ?_⟩
          have bad : ¬ (0 ≤ t ∧ t < (c.length : Int)) → E (.ref cI) none H3 := fun k => q1 fun v => k (v.2 row hmem _ (List.mem_of_getElem? he))
          refine ⟨_, rfl, _, _, rfl, rfl, _, rfl, ite2 (fun k => ?_) (fun k => ?_)⟩
          · exact bad (by have := of_decide_eq_true k; omega)
          · have k1 : ¬ t < 0 := fun z => k (decide_eq_true z)
            refine ⟨_, rfl, _, rfl, r, _, rfl, .inl (.of e1), _, _, rfl, rfl, _, rfl, ite2 (fun k => ?_) (fun k => ?_)⟩
            · rw [hl2] at k
              exact bad (by have := of_decide_eq_true k; omega)
            · rw [hl2] at k
              have k2 : ¬ (c.length : Int) ≤ t := fun z => k (decide_eq_true z)
              refine ⟨_, _, rfl, rfl, fun z hz => ?_⟩
              rw [take_get he] at hz
              rcases List.mem_append.mp hz with y | y
              · exact hall3 z y
              · rw [List.mem_singleton.mp y]; exact ⟨by omega, by omega⟩
        · rintro σ' H3 ⟨v3, v4, rfl, rfl, hall3⟩
          rw [hbl2, List.take_length] at hall3
          refine ⟨_, _, _, rfl, rfl, fun z hz => ?_⟩
          rw [take_get hrow] at hz
          rcases List.mem_append.mp hz with y | y
          · exact hall2 z y
          · rw [List.mem_singleton.mp y]; exact hall3
      · rintro σ' H2 ⟨v2, v3, v4, rfl, rfl, hall2⟩
        rw [hl2, List.take_length] at hall2
        exact q2 ⟨hall, hall2⟩
def spChkSaid (cI : Addr) : Sp := fun vs H Q E => ∃ (a : Addr) (xs : List Int) (O : Int), vs = [.ref a, .int O] ∧ H a = some (.lst (xs.map V.int)) ∧ (¬ (∀ z ∈ xs, 0 ≤ z ∧ z < O) → E (.ref cI) none H) ∧ ((∀ z ∈ xs, 0 ≤ z ∧ z < O) → Q .non H)
theorem cal_chksaid {cI : Addr} (T : Txt K mg) (eI : ErrC K mg "InvalidMachine" cI) : CalX P w K mg base 1 "check_said" (spChkSaid cI) := by
  obtain ⟨f, fd, F, hm, hb⟩ := T.h_check_said
  refine ⟨f, fd, _, F.okX sc_check_said (fun vs H Q E h => ?_) (fun cdv A outer s H vs Q E hr h => ?_), hm, F.kp, hb⟩
  · obtain ⟨a, xs, O, rfl, _⟩ := h
    rfl
  · obtain ⟨a, xs, O, rfl, e1, q1, q2⟩ := h
    refine ⟨_, (pss_one
      (ps_for (passes_of rfl) rfl (pi_list (pv 0)) (pg_name (i := 2) sc_check_said.nd rfl (.inl rfl)) (pss_one
      (ps_if (PW.pt (pw_or (pt_cmpR op_lt (pv 2) pe_int (nomark _)) (pw_or1 (pt_cmpR op_ge (pv 2) (pv 1) (nomark _))))) (pss_one
      (ps_raise rfl (takes_of rfl rfl rfl rfl) (eI.made rfl))) pss_nil)))), ?_⟩
    refine ⟨_, rfl, a, rfl, ⟨_, .of e1⟩, for_list (K := K) (a := a) (xs := xs.map V.int) (fun i σ' H' => ∃ v2 : Option V, σ' = [some (.ref a), some (.int O), v2] ∧ H' = H ∧ ∀ z ∈ xs.take i, 0 ≤ z ∧ z < O)
      ⟨_, rfl, rfl, by simp⟩ (fun i σ' H' _ ⟨_, _, z, _⟩ => by rw [z]; exact .of e1) ?_ ?_⟩
    · rintro i v σ' H' hi ⟨v2, rfl, rfl, hall⟩
      obtain ⟨z, hz, rfl⟩ := ints_get hi
      have hmem := List.mem_of_getElem? hz
      refine ⟨_, rfl, _, _, rfl, rfl, _, rfl, ite2 (fun k => ?_) (fun k => ?_)⟩
      · exact q1 fun v => by have := v z hmem; have := of_decide_eq_true k; omega
      · have k1 : ¬ z < 0 := fun y => k (decide_eq_true y)
        refine ⟨_, rfl, _, rfl, _, _, rfl, rfl, _, rfl, ite2 (fun k => ?_) (fun k => ?_)⟩
        · exact q1 fun v => by have := v z hmem; have := of_decide_eq_true k; omega
        · have k2 : ¬ O ≤ z := fun y => k (decide_eq_true y)
          refine ⟨_, rfl, rfl, fun y hy => ?_⟩
          rw [take_get hz] at hy
          rcases List.mem_append.mp hy with u | u
          · exact hall y u
          · rw [List.mem_singleton.mp u]; exact ⟨by omega, by omega⟩
    · rintro σ' H' ⟨v2, rfl, rfl, hall⟩
      rw [List.length_map, List.take_length] at hall
      exact q2 hall
/-- two clauses: the outer walk over a list -/
theorem lc2_list {a : Addr} {xs : List V} {g g1 : TG} {tt tt1 : TT} {wi1 : TI} {te : TE} {vs vs1 : List Nat} {σ : L2.St} {H1 : Hp} {D : Addr} {Qd : Hp → Prop} (Pv : Nat → Hp → Prop) (h0 : Pv 0 (upd H1 D (.lst []))) (hl : ∀ i H, i ≤ xs.length → Pv i H → SqL K H a xs)
    (hs : ∀ i x H, xs[i]? = some x → Pv i H → g x (wipe σ vs) H fun σ2 H2 => wipe σ2 vs = wipe σ vs ∧ tt σ2 H2 fun b H3 => if b = true then wi1 σ2 H3 fun J1 H4 => ∃ W1 : Nat → Nat → Hp → Prop, (∃ m, W1 0 m H4) ∧ ∀ j k H, W1 j k H →
      (J1.stop j H ∧ Pv (i + 1) H) ∨ (J1.go j H ∧ ∃ Nx1 : Hp → Prop, (∀ H', Nx1 H' → ∃ k', k' < k ∧ W1 (j + 1) k' H') ∧ ∀ x H', J1.yld j H x H' → g1 x (wipe σ2 vs1) H' fun σ3 H5 => wipe σ3 vs1 = wipe σ2 vs1 ∧ tt1 σ3 H5 fun b H6 =>
        if b = true then te σ3 H6 fun y H7 => ∃ acc, H7 D = some (.lst acc) ∧ acc.length < sizeLine ∧ Nx1 (upd H7 D (.lst (acc ++ [y]))) else Nx1 H6) else Pv (i + 1) H3) (hd : ∀ H, Pv xs.length H → Qd H) :
    ∃ W : Nat → Nat → Hp → Prop, (∃ m, W 0 m (upd H1 D (.lst []))) ∧ ∀ i m H, W i m H →
      ((Itl K a).stop i H ∧ Qd H) ∨ ((Itl K a).go i H ∧ ∃ Nx : Hp → Prop, (∀ H', Nx H' → ∃ m', m' < m ∧ W (i + 1) m' H') ∧ ∀ x H', (Itl K a).yld i H x H' → g x (wipe σ vs) H' fun σ2 H2 => wipe σ2 vs = wipe σ vs ∧ tt σ2 H2 fun b H3 =>
        if b = true then wi1 σ2 H3 fun J1 H4 => ∃ W1 : Nat → Nat → Hp → Prop, (∃ m, W1 0 m H4) ∧ ∀ j k H, W1 j k H →
          (J1.stop j H ∧ Nx H) ∨ (J1.go j H ∧ ∃ Nx1 : Hp → Prop, (∀ H', Nx1 H' → ∃ k', k' < k ∧ W1 (j + 1) k' H') ∧ ∀ x H', J1.yld j H x H' → g1 x (wipe σ2 vs1) H' fun σ3 H5 => wipe σ3 vs1 = wipe σ2 vs1 ∧ tt1 σ3 H5 fun b H6 =>
            if b = true then te σ3 H6 fun y H7 => ∃ acc, H7 D = some (.lst acc) ∧ acc.length < sizeLine ∧ Nx1 (upd H7 D (.lst (acc ++ [y]))) else Nx1 H6) else Nx H3) := by
  refine ⟨fun i m H => m = xs.length - i ∧ i ≤ xs.length ∧ Pv i H, ⟨xs.length, by simp, Nat.zero_le _, h0⟩, ?_⟩
  rintro i m H ⟨rfl, hi, p⟩
  have q := hl i H hi p
  rcases Nat.lt_or_ge i xs.length with c | c
  · exact .inr ⟨⟨xs, xs[i], q, List.getElem?_eq_getElem c⟩, Pv (i + 1), fun H' p' => ⟨xs.length - (i + 1), by omega, rfl, c, p'⟩, fun x H' y => by rw [y.1]; exact hs i x H (y.2 xs q) p⟩
  · have e : i = xs.length := Nat.le_antisymm hi c
    rw [e] at p
    exact .inl ⟨⟨xs, q, c⟩, hd H p⟩
/-- .. the inner walk over a list -/
theorem lc2_inL {b : Addr} {ys : List V} {g1 : TG} {tt1 : TT} {te : TE} {vs1 : List Nat} {σ2 : L2.St} {H4 : Hp} {D : Addr} {Nx : Hp → Prop} (Pv : Nat → Hp → Prop) (h0 : Pv 0 H4) (hl : ∀ j H, j ≤ ys.length → Pv j H → SqL K H b ys)
    (hs : ∀ j x H, ys[j]? = some x → Pv j H → g1 x (wipe σ2 vs1) H fun σ3 H5 => wipe σ3 vs1 = wipe σ2 vs1 ∧ tt1 σ3 H5 fun c H6 => if c = true then te σ3 H6 fun y H7 => ∃ acc, H7 D = some (.lst acc) ∧ acc.length < sizeLine ∧ Pv (j + 1) (upd H7 D (.lst (acc ++ [y]))) else Pv (j + 1) H6)
    (hd : ∀ H, Pv ys.length H → Nx H) :
    ∃ W1 : Nat → Nat → Hp → Prop, (∃ m, W1 0 m H4) ∧ ∀ j k H, W1 j k H →
      ((Itl K b).stop j H ∧ Nx H) ∨ ((Itl K b).go j H ∧ ∃ Nx1 : Hp → Prop, (∀ H', Nx1 H' → ∃ k', k' < k ∧ W1 (j + 1) k' H') ∧ ∀ x H', (Itl K b).yld j H x H' → g1 x (wipe σ2 vs1) H' fun σ3 H5 => wipe σ3 vs1 = wipe σ2 vs1 ∧ tt1 σ3 H5 fun c H6 =>
        if c = true then te σ3 H6 fun y H7 => ∃ acc, H7 D = some (.lst acc) ∧ acc.length < sizeLine ∧ Nx1 (upd H7 D (.lst (acc ++ [y]))) else Nx1 H6) := by
  refine ⟨fun j m H => m = ys.length - j ∧ j ≤ ys.length ∧ Pv j H, ⟨ys.length, by simp, Nat.zero_le _, h0⟩, ?_⟩
  rintro j m H ⟨rfl, hj, p⟩
  have q := hl j H hj p
  rcases Nat.lt_or_ge j ys.length with c | c
  · exact .inr ⟨⟨ys, ys[j], q, List.getElem?_eq_getElem c⟩, Pv (j + 1), fun H' p' => ⟨ys.length - (j + 1), by omega, rfl, c, p'⟩, fun x H' y => by rw [y.1]; exact hs j x H (y.2 ys q) p⟩
  · have e : j = ys.length := Nat.le_antisymm hj c
    rw [e] at p
    exact .inl ⟨⟨ys, q, c⟩, hd H p⟩
theorem for_seqK {K : PySem.W.Frag} {i : Nat} {a : Addr} {xs : List V} {g : TG} {tb : TS} {D : Ends} {σ : L2.St} {H : Hp} (hv : σ[i]? = some (some (.ref a))) (hq : SeqV H a xs) (Pv : Nat → L2.St → Hp → Prop) (h0 : Pv 0 σ H) (hS : ∀ i σ' H', Pv i σ' H' → ∀ o, H a = some o → H' a = some o)
    (hs : ∀ i x σ H, xs[i]? = some x → Pv i σ H → g x σ H fun σ2 H2 => tb { D with nx := Pv (i + 1), ct := Pv (i + 1), bk := D.nx } σ2 H2) (hd : ∀ σ H, Pv xs.length σ H → D.nx σ H) : tFor (iSeq K (tVar i)) g tb D σ H := by
  rcases hq with h | h
  · exact .inl ⟨_, hv, a, rfl, ⟨_, .of h⟩, for_list Pv h0 (fun i σ' H' _ p => .of (hS i σ' H' p _ h)) hs hd⟩
  · exact .inr ⟨_, hv, a, rfl, ⟨_, .of h⟩, for_tup Pv h0 (fun i σ' H' _ p => .of (hS i σ' H' p _ h)) hs hd⟩
def cel (c : List (List (Int × Int))) (s z : Int) : Int × Int := (c.getD s.toNat []).getD z.toNat (0, 0)
def rst (c : List (List (Int × Int))) (s : Int) (hs : List Int) : Int := hs.foldl (fun s z => (cel c s z).1) s
def rem (c : List (List (Int × Int))) : Int → List Int → List Int
  | _, [] => []
  | s, z :: zs => (cel c s z).2 :: rem c (cel c s z).1 zs
theorem rst_snoc (c : List (List (Int × Int))) (s : Int) (hs : List Int) (z : Int) : rst c s (hs ++ [z]) = (cel c (rst c s hs) z).1 := by
  unfold rst
  rw [List.foldl_append]
  rfl
theorem rem_snoc (c : List (List (Int × Int))) : ∀ (s : Int) (hs : List Int) (z : Int), rem c s (hs ++ [z]) = rem c s hs ++ [(cel c (rst c s hs) z).2]
  | s, [], z => rfl
  | s, y :: hs, z => by
    show _ :: rem c _ (hs ++ [z]) = _ :: (rem c _ hs ++ [_])
    rw [rem_snoc c _ hs z]
    rfl
theorem rem_len (c : List (List (Int × Int))) : ∀ (s : Int) (hs : List Int), (rem c s hs).length = hs.length
  | _, [] => rfl
  | s, z :: zs => congrArg (· + 1) (rem_len c _ zs)
/-- the rows are such that every move stays within them -/
structure Wc (I : Int) (c : List (List (Int × Int))) : Prop where
  w : ∀ r ∈ c, (r.length : Int) = I
  st : ∀ r ∈ c, ∀ p ∈ r, 0 ≤ p.1 ∧ p.1 < (c.length : Int)
theorem Vm.wc {I O L : Int} {op : List Int} {c : List (List (Int × Int))} (h : Vm I O L op c) : Wc I c := ⟨h.w, h.st⟩
theorem cel_get {I : Int} {c : List (List (Int × Int))} {s z : Int} (h : Wc I c) (s0 : 0 ≤ s) (s1 : s < (c.length : Int)) (z0 : 0 ≤ z) (z1 : z < I) : ∃ row, c[s.toNat]? = some row ∧ row[z.toNat]? = some (cel c s z) ∧ 0 ≤ (cel c s z).1 ∧ (cel c s z).1 < (c.length : Int) := by
  have h1 := List.getElem?_eq_getElem (show s.toNat < c.length by omega)
  have hw := h.w _ (List.mem_of_getElem? h1)
  have h2 := List.getElem?_eq_getElem (show z.toNat < (c[s.toNat]).length by omega)
  have e : cel c s z = (c[s.toNat])[z.toNat] := by
    unfold cel
    rw [List.getD_eq_getElem?_getD, List.getD_eq_getElem?_getD, h1, Option.getD_some, h2, Option.getD_some]
  refine ⟨_, h1, by rw [e]; exact h2, ?_⟩
  rw [e]
  exact h.st _ (List.mem_of_getElem? h1) _ (List.mem_of_getElem? h2)
theorem rst_in {I : Int} {c : List (List (Int × Int))} (h : Wc I c) : ∀ (hs : List Int) (s : Int), 0 ≤ s → s < (c.length : Int) → (∀ z ∈ hs, 0 ≤ z ∧ z < I) → 0 ≤ rst c s hs ∧ rst c s hs < (c.length : Int)
  | [], s, s0, s1, _ => ⟨s0, s1⟩
  | z :: zs, s, s0, s1, hz => by
    obtain ⟨_, _, _, a, b⟩ := cel_get h s0 s1 (hz z List.mem_cons_self).1 (hz z List.mem_cons_self).2
    exact rst_in h zs _ a b fun y hy => hz y (List.mem_cons_of_mem _ hy)
def spRun (C : Addr) : Sp := fun vs H Q _ => ∃ (x a : Addr) (I O L s : Int) (op hs : List Int) (c : List (List (Int × Int))), vs = [.ref x, .int s, .ref a] ∧ MchAt C H x I O L op c ∧ Wc I c ∧ 0 ≤ s ∧ s < (c.length : Int) ∧ SeqV H a (hs.map V.int) ∧ (∀ z ∈ hs, 0 ≤ z ∧ z < I) ∧ hs.length ≤ 100000 ∧
  ∀ (H' : Hp) (t p : Addr), Same H H' → H t = none → H p = none → t ≠ p → H' t = some (.tup [.int (rst c s hs), .ref p]) → H' p = some (.lst ((rem c s hs).map V.int)) → Q (.ref t) H'
theorem cal_run {C : Addr} (T : Txt K mg) (PC : MchC K C) : C8.Cal P w K mg base 1 "run" (spRun C) [] := by
  obtain ⟨f, fd, F, hm, hb⟩ := T.h_run
  refine ⟨f, fd, _, [], F.ok sc_run (fun vs H Q E h => ?_) (fun cdv A outer s H vs Q E hr h => ?_), hm, F.kp, hb, .nil⟩
  · obtain ⟨x, a, I, O, L, s, op, hs, c, rfl, _⟩ := h
    rfl
  · obtain ⟨x, a, I, O, L, s0, op, hs, c, rfl, hA, hW, h0, h1, ha, hz, hl, q⟩ := h
    refine ⟨_, (pss_cons
      (ps_set (i := 3) sc_run.nd rfl (Or.inl rfl) (pe_lst pa_nil))
      (pss_cons
      (ps_for PassesOwn.never rfl (pi_seq (K := K) rfl (pv 2)) (pg_name (i := 4) sc_run.nd rfl (.inl rfl)) (pss_cons
      (ps_asg (pe_ix (ix_tupK (K := K) rfl) (pe_ix (ix_tupK (K := K) rfl) (pe_fld (pv 0) rfl) (pv 1) (fun _ _ => rfl)) (pv 4) (fun _ _ => rfl)) (pg_tup (by rfl) (pgs_cons (pg_name (i := 1) sc_run.nd rfl (.inl rfl)) (pgs_cons (pg_name (i := 5) sc_run.nd rfl (.inl rfl)) pgs_nil))))
      (pss_one
      (ps_expr (pe_bm PySem.F.plainAttrs_list PySem.F.slot_list_append PySem.F.type_list_append mt_append (pv 3) (pa_cons (pv 5) pa_nil))))))
      (pss_one
      (ps_ret (pe_tup (pa_cons (pv 1) (pa_cons (pv 3) pa_nil))))))), ?_⟩
    obtain ⟨dx, ot, rt, as, e1, e2, e3, e4⟩ := id hA
    refine ⟨Nat.zero_le _, fun D hD => ?_⟩
    have s1 := same_new (o := .lst []) hD
    refine for_seqK (a := a) (xs := hs.map V.int) rfl (ha.same s1) (fun i σ' H' => ∃ v4 v5 : Option V, σ' = [some (.ref x), some (.int (rst c s0 (hs.take i))), some (.ref a), some (.ref D), v4, v5] ∧ Same H H' ∧ H' D = some (.lst ((rem c s0 (hs.take i)).map V.int)))
      ⟨_, _, rfl, s1, upd_same⟩ (fun i σ' H' ⟨_, _, _, z, _⟩ o h => by
        have nDa : a ≠ D := fun y => by rcases ha with u | u <;> rw [y, hD] at u <;> cases u
        rw [upd_ne nDa] at h
        exact z _ _ h) ?_ ?_
    · rintro i v σ' H' hi ⟨v4, v5, rfl, s2, eD⟩
      obtain ⟨z, hzi, rfl⟩ := ints_get hi
      obtain ⟨z0, z1⟩ := hz z (List.mem_of_getElem? hzi)
      obtain ⟨r0, r1⟩ := rst_in hW (hs.take i) s0 h0 h1 fun y hy => hz y (List.mem_of_mem_take hy)
      obtain ⟨row, hrow, hcel, c0, c1⟩ := cel_get hW r0 r1 z0 z1
      have hil := (List.getElem?_eq_some_iff.mp hzi).1
      obtain ⟨ra, hra⟩ : ∃ ra, as[(rst c s0 (hs.take i)).toNat]? = some ra := ⟨_, List.getElem?_eq_getElem (by have := e4.len; omega)⟩
      obtain ⟨bs, row2, h2, h3, h4, h5⟩ := e4.g _ ra hra
      rw [hrow] at h2
      cases h2
      have hzl := (List.getElem?_eq_some_iff.mp hcel).1
      obtain ⟨b, hb⟩ : ∃ b, bs[z.toNat]? = some b := ⟨_, List.getElem?_eq_getElem (by omega)⟩
      obtain ⟨t, l, h6, h7⟩ := h5 _ b hb
      rw [hcel] at h6
      have ec := Option.some.inj h6
      have eD1 := s2 _ _ e1
      have hlen : (rem c s0 (hs.take i)).length ≤ 100000 := by rw [rem_len, List.length_take]; omega
      refine ⟨_, rfl, x, C, dx, _, _, rfl, s2 _ _ e1, PC.cl, PC.nr, mf_r _ _ _ _ _, _, rfl, rt, _, _, .ref ra, rfl, rfl, .of (s2 _ _ e3), by rw [show rst c s0 (hs.take i) = (((rst c s0 (hs.take i)).toNat : Nat) : Int) by omega]; exact atI_nat (by rw [List.getElem?_map, hra]; rfl), _, rfl, ra, _, _, .ref b, rfl, rfl, .of (s2 _ _ h3), by rw [show z = ((z.toNat : Nat) : Int) by omega]; exact atI_nat (by rw [List.getElem?_map, hb]; rfl), b, _, rfl, .of (s2 _ _ h7), rfl, _, _, rfl, _, _, rfl, rfl, ?_⟩
      refine ⟨_, rfl, .inl ⟨rfl, _, .of eD⟩, _, rfl, D, _, _, rfl, rfl, eD, by rw [List.length_map]; exact Nat.lt_of_le_of_lt hlen (by decide), some (.int z), some (.int l), ?_, fun b' u hb' => ?_, ?_⟩
      · rw [take_get hzi, rst_snoc, ec]
        rfl
      · rw [upd_ne (ne_of_none hb' hD)]
        exact s2 _ _ hb'
      · rw [upd_same, take_get hzi, rem_snoc, ec, List.map_append]
        rfl
    · rintro σ' H' ⟨v4, v5, rfl, s2, eD⟩
      rw [List.length_map, List.take_length] at eD ⊢
      refine ⟨_, rfl, _, rfl, by show 2 ≤ sizeLine; decide, fun t ht => ?_⟩
      have nDt : D ≠ t := fun y => by rw [y, ht] at eD; cases eD
      exact q _ t D (s2.trans (same_new ht)) (s2.free ht) hD nDt.symm upd_same (by rw [upd_ne nDt]; exact eD)
theorem sq_nx {H : Hp} {x a C dx : Addr} {f : List (Str × V)} {xs : List V} (hx : H x = some (.ins C dx f)) (h : SeqV H a xs) : a ≠ x := fun z => by
  rw [z] at h
  rcases h with h | h
  · rw [hx] at h
    cases h
  · rw [hx] at h
    cases h
theorem tupq {H : Hp} {p : Addr} {ns : List Int} {Q : VK} (h : SeqV H p (ns.map V.int)) (q : ∀ (H' : Hp) (t : Addr), Same H H' → TupI H' t ns → Q (.ref t) H') : rTupOf K [.ref p] H Q := by
  rcases h with h | h
  · exact ⟨p, _, rfl, .inl ⟨.of h, fun l hl => q _ l (same_new hl) upd_same⟩⟩
  · exact ⟨p, _, rfl, .inr ⟨.of h, q H p (Same.refl _) h⟩⟩
theorem RP.kp {mk : List V → HO} {H H' : Hp} {x : Addr} {as : List Addr} {c : List (List (Int × Int))} (hx : ∀ ys, H x ≠ some (mk ys) ∧ H x ≠ some (.tup ys)) (k : Kp x H H') (h : RP mk H as c) : RP mk H' as c := ⟨h.len, fun i a e => by
  obtain ⟨bs, row, h1, h2, h3, h4⟩ := h.g i a e
  refine ⟨bs, row, h1, k _ _ (fun z => (hx _).1 (by rw [← z]; exact h2)) h2, h3, fun j b hb => ?_⟩
  obtain ⟨t, l, h5, h6⟩ := h4 j b hb
  exact ⟨t, l, h5, k _ _ (fun z => (hx _).2 (by rw [← z]; exact h6)) h6⟩⟩
theorem LPr.kp {H H' : Hp} {x r C dx : Addr} {f : List (Str × V)} {as : List Addr} {c : List (List (Int × Int))} (hx : H x = some (.ins C dx f)) (k : Kp x H H') (h : LPr H r as c) : LPr H' r as c :=
  ⟨k _ _ (fun z => by have := h.1; rw [z, hx] at this; cases this) h.1, My.RP.kp (fun ys => ⟨fun z => (by rw [hx] at z; cases z), fun z => by rw [hx] at z; (cases z)⟩) k h.2⟩
theorem RP.snoc {mk : List V → HO} {H : Hp} {as : List Addr} {c : List (List (Int × Int))} {a : Addr} {bs : List Addr} {row : List (Int × Int)} (h : RP mk H as c) (ha : H a = some (mk (bs.map V.ref))) (hl : bs.length = row.length) (hb : ∀ (j : Nat) (b : Addr), bs[j]? = some b → ∃ t l, row[j]? = some (t, l) ∧ H b = some (.tup [.int t, .int l])) : RP mk H (as ++ [a]) (c ++ [row]) := by
  refine ⟨by rw [List.length_append, List.length_append, h.len]; rfl, fun i a' e => ?_⟩
  rcases snoc_get e with ⟨h0, h1⟩ | ⟨h1, h2⟩
  · obtain ⟨bs', row', g1, g2, g3, g4⟩ := h.g i a' h1
    exact ⟨bs', row', by rw [List.getElem?_append_left (by have := h.len; omega)]; exact g1, g2, g3, g4⟩
  · subst h2
    exact ⟨bs, row, by rw [List.getElem?_append_right (by have := h.len; omega), show i - c.length = 0 by have := h.len; omega]; rfl, ha, hl, hb⟩
theorem RP.nil {mk : List V → HO} {H : Hp} : RP mk H [] [] := ⟨rfl, fun i a e => by (cases e)⟩
theorem tup_upd {H : Hp} {D : Addr} {ys : List V} {o : HO} (h : H D = some (.lst ys)) : ∀ (b : Addr) (xs : List V), H b = some (.tup xs) → (upd H D o) b = some (.tup xs) := fun b xs hb => by
  rw [upd_ne (fun z => by rw [z, h] at hb; cases hb)]
  exact hb
def sds (c : List (List (Int × Int))) : List Int := (c.map fun r => r.map fun p => p.2).flatten
theorem sds_snoc (c : List (List (Int × Int))) (r : List (Int × Int)) : sds (c ++ [r]) = sds c ++ r.map fun p => p.2 := by
  unfold sds
  rw [List.map_append, List.flatten_append]
  simp
theorem sds_len : ∀ c : List (List (Int × Int)), (∀ r ∈ c, r.length ≤ 100) → (sds c).length ≤ 100 * c.length
  | [], _ => by simp [sds]
  | r :: rs, h => by
    have e : sds (r :: rs) = (r.map fun p => p.2) ++ sds rs := rfl
    have h1 := h r List.mem_cons_self
    have h2 := sds_len rs fun x hx => h x (List.mem_cons_of_mem _ hx)
    rw [e, List.length_append, List.length_map, List.length_cons]
    omega
theorem sds_mem {c : List (List (Int × Int))} {z : Int} : z ∈ sds c ↔ ∃ r ∈ c, ∃ p ∈ r, p.2 = z := by
  unfold sds
  rw [List.mem_flatten]
  constructor
  · rintro ⟨l, hl, hz⟩
    obtain ⟨r, hr, rfl⟩ := List.mem_map.mp hl
    obtain ⟨p, hp, rfl⟩ := List.mem_map.mp hz
    exact ⟨r, hr, p, hp, rfl⟩
  · rintro ⟨r, hr, p, hp, rfl⟩
    exact ⟨_, List.mem_map.mpr ⟨r, hr, rfl⟩, List.mem_map.mpr ⟨p, hp, rfl⟩⟩
def spInitM (C cI : Addr) : Sp := fun vs H Q E => ∃ (x a r dx : Addr) (I O L : Int) (op : List Int) (as : List Addr) (c : List (List (Int × Int))), vs = [.ref x, .int I, .int O, .int L, .ref a, .ref r] ∧ H x = some (.ins C dx []) ∧ SeqV H a (op.map V.int) ∧ LPr H r as c ∧
  op.length ≤ 1000 ∧ c.length ≤ 100 ∧ (∀ r ∈ c, r.length ≤ 100) ∧ (¬ Vm I O L op c → ∀ H', Same H H' → E (.ref cI) none H') ∧ (Vm I O L op c → ∀ H', Kp x H H' → MchAt C H' x I O L op c → Q .non H')
theorem ok_initM {cI C fI : Addr} {fdI : FuncData} {tk1 tk2 : Tok} (T : Txt K mg) (eI : ErrC K mg "InvalidMachine" cI) (PC : MchC K C) (gLL : mg "LEAST_LEAD" = some (.int (-3) tk1)) (gGL : mg "GREATEST_LEAD" = some (.int 2 tk2)) (F : L2.Fun K "__init__" "Machine.__init__" s_Machine_init fI fdI) :
    FnOk P w K mg base (L2.CX P w) 2 fI fdI ["self", "inputs", "outputs", "lead", "opening", "rows"] (spInitM C cI) := by
  have X_check_rows : CalX P w K mg base 1 "check_rows" (spChkRows cI) := cal_chkrows T eI
  have X_check_said : CalX P w K mg base 1 "check_said" (spChkSaid cI) := cal_chksaid T eI
  refine F.okX sc_Machine_init (fun vs H Q E h => ?_) (fun cdv A outer s H vs Q E hr h => ?_)
  · obtain ⟨x, a, r, dx, I, O, L, op, as, c, rfl, _⟩ := h
    rfl
  · obtain ⟨x, a, r, dx, I, O, L, op, as, c, rfl, hx, ha, hL, l0, l1, l2, q1, q2⟩ := h
    refine ⟨_, (pss_cons
      (ps_if (PW.pt (pw_or (pt_cmpR op_lt (pv 1) pe_int (nomark _)) (pw_or1 (pt_cmpR op_lt (pv 2) pe_int (nomark _))))) (pss_one
      (ps_raise rfl (takes_of rfl rfl rfl rfl) (eI.made rfl))) pss_nil)
      (pss_cons
      (ps_if (PW.pt (pw_or (pt_cmpR op_lt (pv 3) (pe_glob (v := .int (-3)) (by rfl) gLL ⟨_, rfl⟩) (nomark _)) (pw_or1 (pt_cmpR op_gt (pv 3) (pe_glob (v := .int 2) (by rfl) gGL ⟨_, rfl⟩) (nomark _))))) (pss_one
      (ps_raise rfl (takes_of rfl rfl rfl rfl) (eI.made rfl))) pss_nil)
      (pss_cons
      (ps_if (pt_cmpR op_ne (pe_callB (call_lenK (K := K) rfl) (by rfl) T.z_len PySem.boot_len (pa_cons (pv 4) pa_nil)) (pe_callB (call_max2 rfl) (by rfl) T.z_max (by decide +kernel) (pa_cons pe_int (pa_cons (pe_un un_neg (pv 3)) pa_nil))) (nomark _)) (pss_one
      (ps_raise rfl (takes_of rfl rfl rfl rfl) (eI.made rfl))) pss_nil)
      (pss_cons
      (ps_if (pt_cmpR op_eq (pe_callB (call_lenK (K := K) rfl) (by rfl) T.z_len PySem.boot_len (pa_cons (pv 5) pa_nil)) pe_int (nomark _)) (pss_one
      (ps_raise rfl (takes_of rfl rfl rfl rfl) (eI.made rfl))) pss_nil)
      (pss_cons
      (ps_expr (pe_cx X_check_rows hr (by decide) (takes_of rfl rfl rfl rfl) (by rfl) (pa_cons (pv 5) (pa_cons (pv 1) pa_nil))))
      (pss_cons
      (ps_expr (pe_cx X_check_said hr (by decide) (takes_of rfl rfl rfl rfl) (by rfl) (pa_cons (pe_op op_cat (pe_callTy (call_list_ofK (K := K) rfl) (by rfl) T.z_list (by decide +kernel) (pa_cons (pv 4) pa_nil)) (pe_lc2 (own := [("row", 6), ("_", 7), ("letter", 8)]) (vs1 := [7, 8]) (g := gName 6) (g1 := gTup K 2 (gCons (gName 7) (gCons (gName 8) gNil))) (tt := tYes) (tt1 := tYes) rfl sc_Machine_init.nd (pi_list (pv 5)) (blkOk_by (N := N_Machine_init) (sc := defScope s_Machine_init) (by decide +kernel)) (by decide) (fun _ _ _ _ _ => (pg_name (i := 6) sc_Machine_init.nd rfl (Or.inl rfl))) (fun _ _ _ _ _ => pts_nil) (fun _ _ _ _ _ => (pi_listK (K := K) rfl (pv 6))) (fun _ _ _ _ _ => (pg_tup (by rfl) (pgs_cons (pg_name (i := 7) sc_Machine_init.nd rfl (Or.inl rfl)) (pgs_cons (pg_name (i := 8) sc_Machine_init.nd rfl (Or.inl rfl)) pgs_nil)))) (fun _ _ _ _ _ => pts_nil) (fun _ _ _ _ _ => (pv 8)))) (pa_cons (pv 2) pa_nil))))
      (pss_cons
      (ps_fld (pv 0) (pv 1) rfl)
      (pss_cons
      (ps_fld (pv 0) (pv 2) rfl)
      (pss_cons
      (ps_fld (pv 0) (pv 3) rfl)
      (pss_cons
      (ps_fld (pv 0) (pe_callTy (call_tuple_ofK (K := K) rfl) (by rfl) T.z_tuple (by decide +kernel) (pa_cons (pv 4) pa_nil)) rfl)
      (pss_one
      (ps_fld (pv 0) (pe_callTy (call_tuple_ofK (K := K) rfl) (by rfl) T.z_tuple (by decide +kernel) (pa_cons (pe_lc (own := [("row", 6)]) (g := gName 6) (tt := tYes) rfl sc_Machine_init.nd (pi_list (pv 5)) (blkOk_by (N := N_Machine_init) (sc := defScope s_Machine_init) (by decide +kernel)) (fun _ _ _ _ _ => (pg_name (i := 6) sc_Machine_init.nd rfl (by first | exact Or.inl rfl | exact Or.inr rfl))) (fun _ _ _ _ _ => pts_nil) (fun _ _ _ _ _ => (pe_callTy (call_tuple_ofK (K := K) rfl) (by rfl) T.z_tuple (by decide +kernel) (pa_cons (pe_lc (own := [("target", 9), ("letter", 8)]) (g := gTup K 2 (gCons (gName 9) (gCons (gName 8) gNil))) (tt := tYes) rfl sc_Machine_init.nd (pi_listK (K := K) rfl (pv 6)) (blkOk_by (N := N_Machine_init) (sc := stS (defScope s_Machine_init) 10 (defBody s_Machine_init)) (by decide +kernel)) (fun _ _ _ _ _ => (pg_tup (by rfl) (pgs_cons (pg_name (i := 9) sc_Machine_init.nd rfl (Or.inl rfl)) (pgs_cons (pg_name (i := 8) sc_Machine_init.nd rfl (Or.inl rfl)) pgs_nil)))) (fun _ _ _ _ _ => pts_nil) (fun _ _ _ _ _ => (pe_tup (pa_cons (pv 9) (pa_cons (pv 8) pa_nil))))) pa_nil)))) pa_nil)) rfl)))))))))))), ?_⟩
    have hl2 : (as.map V.ref).length = c.length := by rw [List.length_map, hL.2.len]
    refine ⟨_, rfl, _, _, rfl, rfl, _, rfl, ite2 (fun k => q1 (fun v => by have := v.i1; have := of_decide_eq_true k; omega) H (Same.refl H)) (fun k => ?_)⟩
    have k1 : ¬ I < 1 := fun y => k (decide_eq_true y)
    refine ⟨_, rfl, _, _, rfl, rfl, _, rfl, ite2 (fun k => q1 (fun v => by have := v.o1; have := of_decide_eq_true k; omega) H (Same.refl H)) (fun k => ?_)⟩
    have k2 : ¬ O < 1 := fun y => k (decide_eq_true y)
    refine ⟨_, rfl, _, _, rfl, rfl, _, rfl, ite2 (fun k => q1 (fun v => by have := v.l0; have := of_decide_eq_true k; omega) H (Same.refl H)) (fun k => ?_)⟩
    have k3 : ¬ L < -3 := fun y => k (decide_eq_true y)
    refine ⟨_, rfl, _, _, rfl, rfl, _, rfl, ite2 (fun k => q1 (fun v => by have := v.l1; have := of_decide_eq_true k; omega) H (Same.refl H)) (fun k => ?_)⟩
    have k4 : ¬ 2 < L := fun y => k (decide_eq_true y)
    have emx : (if -L > 0 then -L else 0) = max 0 (-L) := by split <;> omega
    refine ⟨_, rfl, a, _, rfl, ha.sq, _, rfl, _, rfl, _, _, rfl, rfl, _, rfl, ?_⟩
    rw [emx, List.length_map]
    refine ite_ne (fun k => q1 (fun v => k v.op_len) H (Same.refl H)) (fun k5 => ?_)
    refine ⟨_, rfl, r, _, rfl, .inl (.of hL.1), rfl, _, rfl, ?_⟩
    rw [hl2]
    refine ite_eq (fun k => q1 (fun v => v.ne (List.length_eq_zero_iff.mp (by omega))) H (Same.refl H)) (fun k6 => ?_)
    refine ⟨_, rfl, _, rfl, r, as, c, I, rfl, hL, fun k => q1 (fun v => k ⟨v.w, v.st⟩) H (Same.refl H), fun hCR => ?_⟩
    refine ⟨_, rfl, a, _, rfl, ha.sq, fun p1 n1 => ?_⟩
    have s1 := same_new (o := .lst (op.map V.int)) n1
    have ep1 := upd_same (H := H) (a := p1) (o := .lst (op.map V.int))
    generalize upd H p1 (.lst (op.map V.int)) = H1 at s1 ep1 ⊢
    refine ⟨_, rfl, r, rfl, ⟨_, .of (s1 _ _ hL.1)⟩, fun D hD => lc2_list (K := K) (a := r) (xs := as.map V.ref) (fun i H' => Same H1 H' ∧ H' D = some (.lst ((sds (c.take i)).map V.int))) ⟨same_new hD, upd_same⟩ (fun i H' _ ⟨z, _⟩ => .of (z _ _ (s1 _ _ hL.1))) ?_ ?_⟩
    · rintro i v H4 hi ⟨s4, e4⟩
      obtain ⟨ra, hra, rfl⟩ := refs_get hi
      obtain ⟨bs, row, hrow, hae, hbl, hR⟩ := hL.2.g i ra hra
      have hi := (List.getElem?_eq_some_iff.mp hrow).1
      have hrl := l2 row (List.mem_of_getElem? hrow)
      have hsl := sds_len (c.take i) fun q hq => l2 q (List.mem_of_mem_take hq)
      rw [List.length_take] at hsl
      have hbl2 : (bs.map V.ref).length = row.length := by rw [List.length_map, hbl]
      refine ⟨rfl, _, rfl, ra, rfl, ⟨_, .of (s4 _ _ (s1 _ _ hae))⟩, ?_⟩
      refine lc2_inL (K := K) (b := ra) (ys := bs.map V.ref) (fun j H5 => Same H1 H5 ∧ H5 D = some (.lst ((sds (c.take i) ++ (row.take j).map fun p => p.2).map V.int))) ⟨s4, by rw [List.take_zero, List.map_nil, List.append_nil]; exact e4⟩ (fun j H5 _ ⟨z, _⟩ => .of (z _ _ (s1 _ _ hae))) ?_ ?_
      · rintro j y H5 hj ⟨s5, e5⟩
        obtain ⟨b, hb, rfl⟩ := refs_get hj
        obtain ⟨t, l, hp, hbe⟩ := hR j b hb
        have hjl := (List.getElem?_eq_some_iff.mp hp).1
        refine ⟨b, _, rfl, .of (s5 _ _ (s1 _ _ hbe)), rfl, _, _, rfl, _, _, rfl, rfl, rfl, _, rfl, _, e5, ?_, fun d u hd => ?_, ?_⟩
        · rw [List.length_map, List.length_append, List.length_map, List.length_take]
          exact Nat.lt_of_le_of_lt (show _ ≤ 20000 by omega) (by decide)
        · rw [upd_ne (ne_of_none hd hD)]
          exact s5 _ _ hd
        · rw [upd_same, take_get hp, List.map_append (l₂ := [(t, l)]), ← List.append_assoc, List.map_append (l₂ := List.map _ [(t, l)])]
          rfl
      · rintro H5 ⟨s5, e5⟩
        rw [hbl2, List.take_length] at e5
        exact ⟨s5, by rw [take_get hrow, sds_snoc]; exact e5⟩
    rintro H4 ⟨s4, e4⟩
    rw [hl2, List.take_length] at e4
    have hsl := sds_len c l2
    have s04 := s1.trans s4
    have np1D : p1 ≠ D := fun z => by rw [← z, ep1] at hD; cases hD
    refine ⟨p1, D, _, _, rfl, rfl, s4 _ _ ep1, e4, by rw [List.length_map, List.length_map]; exact Nat.le_trans (show _ ≤ 20000 by omega) (by decide), fun p3 n3 => ?_⟩
    rw [← List.map_append]
    have s5 := s04.trans (same_new (o := .lst ((op ++ sds c).map V.int)) n3)
    have e5 := upd_same (H := H4) (a := p3) (o := .lst ((op ++ sds c).map V.int))
    generalize upd H4 p3 (.lst ((op ++ sds c).map V.int)) = H5 at s5 e5 ⊢
    refine ⟨_, rfl, p3, op ++ sds c, O, rfl, e5, fun k => q1 (fun v => k fun z hz => ?_) H5 s5, fun hCS => ?_⟩
    · rcases List.mem_append.mp hz with y | y
      · exact v.op_in z y
      · obtain ⟨r', hr', p, hp, rfl⟩ := sds_mem.mp y
        exact v.em r' hr' p hp
    have hV : Vm I O L op c := ⟨by omega, by omega, by omega, by omega, k5, fun z => k6 (by rw [z]; rfl), hCR.1, hCR.2, fun z hz => hCS z (List.mem_append_left _ hz), fun r' hr' p hp => hCS _ (List.mem_append_right _ (sds_mem.mpr ⟨r', hr', p, hp, rfl⟩))⟩
    have hx5 := s5 _ _ hx
    have ha5 := ha.same s5
    have hL5 := hL.same s5
    have k05 : Kp x H H5 := Same.kp s5
    clear s1 ep1 s4 e4 s04 e5 n1 n3 hD hsl np1D
    -- the fields
    refine ⟨_, rfl, _, rfl, x, C, dx, [], rfl, hx5, PC.cl, PC.nI, by decide, ?_⟩
    have kA : Kp x H5 (upd H5 x (.ins C dx (putF "inputs" (.int I) []))) := Kp.own
    have xA := upd_same (H := H5) (a := x) (o := .ins C dx (putF "inputs" (.int I) []))
    generalize upd H5 x (.ins C dx (putF "inputs" (.int I) [])) = HA at kA xA ⊢
    refine ⟨_, rfl, _, rfl, x, C, dx, _, rfl, xA, PC.cl, PC.nO, pl_lt (pl_next pl_0) (by decide), ?_⟩
    have kB : Kp x HA (upd HA x (.ins C dx (putF "outputs" (.int O) (putF "inputs" (.int I) [])))) := Kp.own
    have xB := upd_same (H := HA) (a := x) (o := .ins C dx (putF "outputs" (.int O) (putF "inputs" (.int I) [])))
    generalize upd HA x (.ins C dx (putF "outputs" (.int O) (putF "inputs" (.int I) []))) = HB at kB xB ⊢
    refine ⟨_, rfl, _, rfl, x, C, dx, _, rfl, xB, PC.cl, PC.nL, pl_lt (pl_next (pl_next pl_0)) (by decide), ?_⟩
    have kC : Kp x HB (upd HB x (.ins C dx (putF "lead" (.int L) (putF "outputs" (.int O) (putF "inputs" (.int I) []))))) := Kp.own
    have xC := upd_same (H := HB) (a := x) (o := .ins C dx (putF "lead" (.int L) (putF "outputs" (.int O) (putF "inputs" (.int I) []))))
    generalize upd HB x (.ins C dx (putF "lead" (.int L) (putF "outputs" (.int O) (putF "inputs" (.int I) [])))) = HC at kC xC ⊢
    have k5C : Kp x H5 HC := (kA.trans kB).trans kC
    have nax : a ≠ x := sq_nx hx5 ha5
    have haC : SeqV HC a (op.map V.int) := ha5.elim (fun z => .inl (k5C _ _ nax z)) (fun z => .inr (k5C _ _ nax z))
    clear kA xA kB xB kC
    refine ⟨_, rfl, ?_⟩
    walk_at "nl"
    refine tupq haC fun Ha ot sa ta => ?_
    have xa := sa _ _ xC
    have nxo : x ≠ ot := fun z => by rw [TupI, ← z, xa] at ta; cases ta
    refine ⟨_, rfl, x, C, dx, _, rfl, xa, PC.cl, PC.no, pl_lt (pl_next (pl_next (pl_next pl_0))) (by decide), ?_⟩
    have k0C : Kp x H (upd Ha x (.ins C dx (putF "opening" (.ref ot) (putF "lead" (.int L) (putF "outputs" (.int O) (putF "inputs" (.int I) [])))))) := fun b u nb hb => by
      rw [upd_ne nb]
      exact sa _ _ (k5C _ _ nb (k05 _ _ nb hb))
    have x3 := upd_same (H := Ha) (a := x) (o := .ins C dx (putF "opening" (.ref ot) (putF "lead" (.int L) (putF "outputs" (.int O) (putF "inputs" (.int I) [])))))
    have t3 : TupI (upd Ha x (.ins C dx (putF "opening" (.ref ot) (putF "lead" (.int L) (putF "outputs" (.int O) (putF "inputs" (.int I) [])))))) ot op := by
      show _ = _
      rw [upd_ne nxo.symm]
      exact ta
    generalize upd Ha x (.ins C dx (putF "opening" (.ref ot) (putF "lead" (.int L) (putF "outputs" (.int O) (putF "inputs" (.int I) []))))) = H3 at k0C x3 t3 ⊢
    have hL3 := My.LPr.kp hx k0C hL
    clear sa ta xa haC xC k5C hx5 ha5 hL5 k05 s5
    refine ⟨_, rfl, r, rfl, ⟨_, .of hL3.1⟩, fun D hD => lc_list (K := K) (a := r) (xs := as.map V.ref) (fun i H4 => ∃ as2 : List Addr, Same H3 H4 ∧ H4 D = some (.lst (as2.map V.ref)) ∧ RP .tup H4 as2 (c.take i))
      ⟨[], same_new hD, upd_same, My.RP.nil⟩ (fun i H' _ ⟨_, z, _⟩ => .of (z _ _ hL3.1)) ?_ ?_⟩
    · rintro i v H4 hi ⟨as2, s4, e4, R4⟩
      obtain ⟨ra, hra, rfl⟩ := refs_get hi
      obtain ⟨bs, row, hrow, hae, hbl, hR⟩ := hL3.2.g i ra hra
      have hil := (List.getElem?_eq_some_iff.mp hrow).1
      have hrl := l2 row (List.mem_of_getElem? hrow)
      have hbl2 : (bs.map V.ref).length = row.length := by rw [List.length_map, hbl]
      refine ⟨rfl, _, rfl, ra, rfl, ⟨_, .of (s4 _ _ hae)⟩, fun E1 hE => lc_list (K := K) (a := ra) (xs := bs.map V.ref) (fun j H5 => ∃ cs : List Addr, Same H4 H5 ∧ H5 E1 = some (.lst (cs.map V.ref)) ∧ cs.length = j ∧ ∀ (m : Nat) (b : Addr), cs[m]? = some b → ∃ t l, row[m]? = some (t, l) ∧ H5 b = some (.tup [.int t, .int l]))
        ⟨[], same_new hE, upd_same, rfl, fun m b e => by (cases e)⟩ (fun i H' _ ⟨_, z, _⟩ => .of (z _ _ (s4 _ _ hae))) ?_ ?_⟩
      · rintro j v H5 hj ⟨cs, s5, e5, hcl, hcs⟩
        obtain ⟨b, hb, rfl⟩ := refs_get hj
        obtain ⟨t, l, hp, hbe⟩ := hR j b hb
        have hjl := (List.getElem?_eq_some_iff.mp hp).1
        refine ⟨b, _, rfl, .of (s5 _ _ (s4 _ _ hbe)), rfl, _, _, rfl, _, _, rfl, rfl, rfl, _, rfl, _, rfl, by show 2 ≤ sizeLine; decide, fun p hp0 => ?_⟩
        have s6 := same_new (o := .tup [.int t, .int l]) hp0
        have nEp : E1 ≠ p := fun z => by rw [z, hp0] at e5; cases e5
        refine ⟨_, s6 _ _ e5, by rw [List.length_map, hcl]; exact Nat.lt_of_le_of_lt (show j ≤ 1000 by omega) (by decide), cs ++ [p], fun d u hd => ?_, by rw [upd_same, List.map_append]; rfl, by rw [List.length_append, hcl]; rfl, fun m b' hm => ?_⟩
        · rw [upd_ne (ne_of_none hd hE)]
          exact s6 _ _ (s5 _ _ hd)
        · rcases snoc_get hm with ⟨h0, h1⟩ | ⟨h1, h2⟩
          · obtain ⟨t', l', g1, g2⟩ := hcs m b' h1
            exact ⟨t', l', g1, tup_upd (s6 _ _ e5) _ _ (s6 _ _ g2)⟩
          · subst h2
            rw [h1, hcl]
            exact ⟨t, l, hp, tup_upd (s6 _ _ e5) _ _ upd_same⟩
      · rintro H5 ⟨cs, s5, e5, hcl, hcs⟩
        rw [hbl2] at hcl
        refine ⟨E1, _, rfl, .inl ⟨.of e5, fun t ht => ?_⟩⟩
        have s6 := same_new (o := .tup (cs.map V.ref)) ht
        have e56 := s6 _ _ (s5 _ _ e4)
        have hal := R4.len
        rw [List.length_take] at hal
        refine ⟨_, e56, by rw [List.length_map]; exact Nat.lt_of_le_of_lt (show as2.length ≤ 1000 by omega) (by decide), as2 ++ [t], fun d u hd => ?_, by rw [upd_same, List.map_append]; rfl, ?_⟩
        · rw [upd_ne (ne_of_none hd hD)]
          exact s6 _ _ (s5 _ _ (s4 _ _ hd))
        · rw [take_get hrow]
          refine RP.keepT (tup_upd e56) (My.RP.snoc (R4.same (s5.trans s6)) (bs := cs) upd_same hcl fun m b hb => ?_)
          obtain ⟨t', l', g1, g2⟩ := hcs m b hb
          exact ⟨t', l', g1, s6 _ _ g2⟩
    · rintro H4 ⟨as2, s4, e4, R4⟩
      rw [hl2, List.take_length] at R4
      refine ⟨D, _, rfl, .inl ⟨.of e4, fun rt hrt => ?_⟩⟩
      have s5 := same_new (o := .tup (as2.map V.ref)) hrt
      have x4 := s5 _ _ (s4 _ _ x3)
      refine ⟨_, rfl, x, C, dx, _, rfl, x4, PC.cl, PC.nr, pl_lt (pl_next (pl_next (pl_next (pl_next pl_0)))) (by decide), q2 hV _ ?_ ⟨dx, ot, rt, as2, upd_same, ?_, ?_, ?_⟩⟩
      · intro b u nb hb
        rw [upd_ne nb]
        exact s5 _ _ (s4 _ _ (k0C _ _ nb hb))
      · show _ = _
        rw [upd_ne nxo.symm]
        exact s5 _ _ (s4 _ _ t3)
      · rw [upd_ne (fun z => by rw [← z, upd_same] at x4; cases x4), upd_same]
      · exact My.RP.kp (fun ys => ⟨fun z => (by rw [x4] at z; cases z), fun z => by rw [x4] at z; (cases z)⟩) Kp.own (R4.same s5)
theorem cut_drop (xs : List V) (n : Nat) : cutV xs (some (n : Int)) none = xs.drop n := by
  unfold cutV
  rw [HT.sIx_none, HT.sIx_nat]
  rcases Nat.le_total n xs.length with c | c
  · rw [Nat.min_eq_left c, List.take_of_length_le (by rw [List.length_drop]; exact Nat.le_refl _)]
  · rw [Nat.min_eq_right c, List.drop_of_length_le (Nat.le_refl _), List.drop_of_length_le c, List.take_nil]
theorem cut_take (xs : List V) (n : Nat) : cutV xs none (some (n : Int)) = xs.take n := by
  unfold cutV
  rw [HT.sIx_none, HT.sIx_nat, List.drop_zero, Nat.sub_zero]
  rcases Nat.le_total n xs.length with c | c
  · rw [Nat.min_eq_left c]
  · rw [Nat.min_eq_right c, List.take_of_length_le c, List.take_of_length_le (Nat.le_refl _)]
section
variable (c : List (List (Int × Int))) (W : Nat → Int)
def stt : Nat → Int
  | 0 => 0
  | n + 1 => (cel c (stt n) (W n)).1
def emt (n : Nat) : Int := (cel c (stt c W n) (W n)).2
end
def seg (f : Nat → Int) (a k : Nat) : List Int := (List.range k).map fun i => f (a + i)
theorem seg_len {f : Nat → Int} {a k : Nat} : (seg f a k).length = k := by unfold seg; rw [List.length_map, List.length_range]
theorem seg_get {f : Nat → Int} {a k i : Nat} (h : i < k) : (seg f a k)[i]? = some (f (a + i)) := by
  unfold seg
  rw [List.getElem?_map, List.getElem?_range h]
  rfl
theorem seg_snoc {f : Nat → Int} {a k : Nat} : seg f a (k + 1) = seg f a k ++ [f (a + k)] := by
  unfold seg
  rw [List.range_succ, List.map_append]
  rfl
theorem seg_app {f : Nat → Int} {a j : Nat} : ∀ k, seg f a (j + k) = seg f a j ++ seg f (a + j) k
  | 0 => by simp [seg]
  | k + 1 => by
    rw [← Nat.add_assoc, seg_snoc, seg_app k, seg_snoc, List.append_assoc, Nat.add_assoc]
theorem run_seg (c : List (List (Int × Int))) (W : Nat → Int) (a : Nat) : ∀ k, rst c (stt c W a) (seg W a k) = stt c W (a + k) ∧ rem c (stt c W a) (seg W a k) = seg (emt c W) a k
  | 0 => ⟨rfl, rfl⟩
  | k + 1 => by
    obtain ⟨h1, h2⟩ := run_seg c W a k
    rw [seg_snoc, rst_snoc, rem_snoc, seg_snoc, h1, h2]
    exact ⟨rfl, rfl⟩
theorem stt_in {I : Int} {c : List (List (Int × Int))} {W : Nat → Int} (h : Wc I c) (hc : c ≠ []) (hW : ∀ n, 0 ≤ W n ∧ W n < I) : ∀ n, 0 ≤ stt c W n ∧ stt c W n < (c.length : Int)
  | 0 => by have := List.length_pos_iff.mpr hc; exact ⟨Int.le_refl 0, show (0 : Int) < _ by omega⟩
  | n + 1 => by
    obtain ⟨a, b⟩ := stt_in h hc hW n
    obtain ⟨_, _, _, u, v⟩ := cel_get h a b (hW n).1 (hW n).2
    exact ⟨u, v⟩
/-- from a state that comes again on all goes as before -/
theorem stt_per {c : List (List (Int × Int))} {W : Nat → Int} {a q : Nat} (hs : stt c W (a + q) = stt c W a) (hW : ∀ n, a ≤ n → W (n + q) = W n) : ∀ m, stt c W (a + m + q) = stt c W (a + m)
  | 0 => hs
  | m + 1 => by
    have ih := stt_per hs hW m
    have e1 : a + (m + 1) + q = (a + m + q) + 1 := by omega
    have e2 : a + (m + 1) = (a + m) + 1 := by omega
    rw [e1, e2]
    show (cel c (stt c W (a + m + q)) (W (a + m + q))).1 = (cel c (stt c W (a + m)) (W (a + m))).1
    rw [ih, hW (a + m) (by omega)]
theorem emt_per {c : List (List (Int × Int))} {W : Nat → Int} {a q : Nat} (hs : stt c W (a + q) = stt c W a) (hW : ∀ n, a ≤ n → W (n + q) = W n) (n : Nat) (hn : a ≤ n) : emt c W (n + q) = emt c W n := by
  obtain ⟨m, rfl⟩ : ∃ m, n = a + m := ⟨n - a, by omega⟩
  unfold emt
  rw [stt_per hs hW m, hW (a + m) hn]
theorem per_mod {f : Nat → Int} {a q : Nat} (hq : 0 < q) (hf : ∀ n, a ≤ n → f (n + q) = f n) : ∀ (n : Nat), a ≤ n → f n = f (a + (n - a) % q) := fun n => by
  induction n using Nat.strongRecOn with
  | _ n ih =>
    intro hn
    rcases Nat.lt_or_ge (n - a) q with y | y
    · rw [Nat.mod_eq_of_lt y, Nat.add_sub_cancel' hn]
    · have h1 := ih (n - q) (by omega) (by omega)
      have h2 := hf (n - q) (by omega)
      rw [show n - q + q = n by omega] at h2
      rw [h2, h1, Nat.mod_eq_sub_mod y]
      congr 2
      congr 1
      omega
/-- the word that is said, before the lead is taken off -/
def sd0 (op : List Int) (e : Nat → Int) (n : Nat) : Int := if n < op.length then op.getD n 0 else e (n - op.length)
theorem said_wat {op : List Int} {e : Nat → Int} {a q : Nat} (hq : 0 < q) (he : ∀ n, a ≤ n → e (n + q) = e n) (n : Nat) : wat (op ++ seg e 0 a) (seg e a q) n = sd0 op e n := by
  unfold wat sd0
  rw [List.length_append, seg_len, seg_len]
  by_cases h1 : n < op.length
  · rw [if_pos (by omega), if_pos h1, List.getD_eq_getElem?_getD, List.getElem?_append_left h1, ← List.getD_eq_getElem?_getD]
  · rw [if_neg h1]
    by_cases h2 : n < op.length + a
    · rw [if_pos h2, List.getD_eq_getElem?_getD, List.getElem?_append_right (by omega), seg_get (by omega), Option.getD_some, Nat.zero_add]
    · rw [if_neg h2, List.getD_eq_getElem?_getD, seg_get (Nat.mod_lt _ hq), Option.getD_some, per_mod hq he (n - op.length) (by omega)]
      congr 2
      congr 1
      omega
theorem distinct_le : ∀ (n i : Nat) (f : Nat → Nat), (∀ j, j < i → f j < n) → (∀ j k, j < k → k < i → f j ≠ f k) → i ≤ n
  | 0, 0, _, _, _ => Nat.le_refl 0
  | 0, i + 1, f, h, _ => absurd (h 0 (by omega)) (Nat.not_lt_zero _)
  | n + 1, i, f, h, hd => by
    by_cases hex : ∃ j, j < i ∧ f j = n
    · obtain ⟨j0, hj0, hf0⟩ := hex
      have := distinct_le n (i - 1) (fun j => if j < j0 then f j else f (j + 1)) (fun j hj => ?_) (fun j k hjk hk => ?_)
      · omega
      · show (if j < j0 then f j else f (j + 1)) < n
        split
        · rename_i y
          have h1 := h j (by omega)
          have h2 := hd j j0 y hj0
          omega
        · rename_i y
          have h1 := h (j + 1) (by omega)
          have h2 := hd j0 (j + 1) (by omega) (by omega)
          omega
      · show (if j < j0 then f j else f (j + 1)) ≠ (if k < j0 then f k else f (k + 1))
        split <;> split
        · exact hd j k hjk (by omega)
        · exact hd j (k + 1) (by omega) (by omega)
        · omega
        · exact hd (j + 1) (k + 1) (by omega) (by omega)
    · exact Nat.le_succ_of_le (distinct_le n i f (fun j hj => by
        have h1 := h j hj
        have h2 : f j ≠ n := fun z => hex ⟨j, hj, z⟩
        omega) hd)
theorem wat_seg {h l : List Int} (hne : l ≠ []) : h = seg (wat h l) 0 h.length ∧ ∀ i, l = seg (wat h l) (h.length + i * l.length) l.length := by
  have hl := List.length_pos_iff.mpr hne
  refine ⟨?_, fun i => ?_⟩
  · apply List.ext_getElem?
    intro j
    rcases Nat.lt_or_ge j h.length with y | y
    · rw [seg_get y, Nat.zero_add]
      unfold wat
      rw [if_pos y, List.getD_eq_getElem?_getD, List.getElem?_eq_getElem y]
      rfl
    · rw [List.getElem?_eq_none y, List.getElem?_eq_none (by rw [seg_len]; exact y)]
  · apply List.ext_getElem?
    intro j
    rcases Nat.lt_or_ge j l.length with y | y
    · rw [seg_get y]
      unfold wat
      rw [if_neg (by omega), show h.length + i * l.length + j - h.length = j + i * l.length by omega, Nat.add_mul_mod_self_right, Nat.mod_eq_of_lt y, List.getD_eq_getElem?_getD, List.getElem?_eq_getElem y]
      rfl
    · rw [List.getElem?_eq_none y, List.getElem?_eq_none (by rw [seg_len]; exact y)]
theorem wat_per {h l : List Int} (hne : l ≠ []) (n : Nat) (hn : h.length ≤ n) (k : Nat) : wat h l (n + k * l.length) = wat h l n := by
  unfold wat
  rw [if_neg (by omega), if_neg (by omega), show n + k * l.length - h.length = (n - h.length) + k * l.length by omega, Nat.add_mul_mod_self_right]
theorem cal_period (T : Txt K mg) : C8.Cal P w K mg base 1 "shortest_period" spPeriod [] := by
  obtain ⟨f, fd, F, hm, hb⟩ := T.h_shortest_period
  refine ⟨f, fd, _, [], F.ok sc_shortest_period (fun vs H Q E h => ?_) (fun cdv A outer s H vs Q E hr h => ?_), hm, F.kp, hb, .nil⟩
  · obtain ⟨a, l, rfl, _⟩ := h
    rfl
  · obtain ⟨a, l, rfl, hl, hne, hlen, q⟩ := h
    have hn : 0 < l.length := List.length_pos_iff.mpr hne
    refine ⟨_, (pss_cons
      (ps_set (i := 1) sc_shortest_period.nd rfl (Or.inl rfl) (pe_lst (pa_cons pe_int pa_nil)))
      (pss_cons
      (ps_set (i := 2) sc_shortest_period.nd rfl (Or.inl rfl) pe_int)
      (pss_cons
      (ps_for PassesOwn.never rfl (pi_range2 (by rfl) T.z_range (pa_cons pe_int (pa_cons (pe_callB (call_lenK (K := K) rfl) (by rfl) T.z_len PySem.boot_len (pa_cons (pv 0) pa_nil)) pa_nil))) (pg_name (i := 3) sc_shortest_period.nd rfl (.inl rfl)) (C8.pss_cut
      (ps_while PassesOwn.never (PW.pt (pw_and (pt_cmpR op_gt (pv 2) pe_int (nomark _)) (pw_and1 (pt_cmpR op_ne (pe_ix (ix_seqK (K := K) rfl) (pv 0) (pv 3) (fun _ _ => rfl)) (pe_ix (ix_seqK (K := K) rfl) (pv 0) (pv 2) (fun _ _ => rfl)) (nomark _))))) (pss_one
      (ps_set (i := 2) sc_shortest_period.nd rfl (Or.inl rfl) (pe_ix (ix_listK (K := K) rfl) (pv 1) (pe_op op_sub (pv 2) pe_int) (fun _ _ => rfl)))))
      (C8.pss_cut
      (ps_if (pt_cmpR op_eq (pe_ix (ix_seqK (K := K) rfl) (pv 0) (pv 3) (fun _ _ => rfl)) (pe_ix (ix_seqK (K := K) rfl) (pv 0) (pv 2) (fun _ _ => rfl)) (nomark _)) (pss_one
      (ps_aug (i := 2) sc_shortest_period.nd rfl (.inl rfl) pe_int ip_add)) pss_nil)
      (pss_one
      (ps_expr (pe_bm PySem.F.plainAttrs_list PySem.F.slot_list_append PySem.F.type_list_append mt_append (pv 1) (pa_cons (pv 2) pa_nil)))))))
      (pss_cons
      (ps_set (i := 4) sc_shortest_period.nd rfl (Or.inl rfl) (pe_op op_sub (pe_callB (call_lenK (K := K) rfl) (by rfl) T.z_len PySem.boot_len (pa_cons (pv 0) pa_nil)) (pv 2)))
      (pss_one
      (ps_ret (pe_ifExp (pt_cmpR op_eq (pe_op op_mod (pe_callB (call_lenK (K := K) rfl) (by rfl) T.z_len PySem.boot_len (pa_cons (pv 0) pa_nil)) (pv 4)) pe_int (nomark _)) (pv 4) (pe_callB (call_lenK (K := K) rfl) (by rfl) T.z_len PySem.boot_len (pa_cons (pv 0) pa_nil))))))))), ?_⟩
    -- borders = [0]; border = 0
    refine ⟨by show 1 ≤ sizeLine; decide, fun o ho => ?_⟩
    have hl1 : SeqI (upd H o (.lst [.int 0])) a l := hl.same (same_new ho)
    -- for at in range(1, len(loop))
    refine ⟨_, rfl, a, _, rfl, hl1.sq, _, _, rfl, (by rw [List.length_map]; omega), for_range (lo := 1) (n := ((((l.map V.int).length : Nat) : Int) - 1).toNat)
      (fun i σ H' => ∃ (b : Nat) (bs : List Nat) (v : Option V), σ = [some (.ref a), some (.ref o), some (.int (b : Nat)), v, none] ∧ Same H H' ∧ H' o = some (.lst (bs.map fun n => V.int (n : Nat))) ∧ bs.length = i + 1 ∧ i + 1 ≤ l.length ∧
        Wd.Lg (lw l) (i + 1) b ∧ ∀ j x, bs[j]? = some x → Wd.Lg (lw l) (j + 1) x)
      ⟨0, [0], none, rfl, same_new ho, upd_same, rfl, hn, ⟨Wd.Bd.zero (by omega), fun j hj => by have := hj.1; omega⟩, fun j x hx => ?_⟩ ?_ ?_⟩
    · cases j with
      | zero =>
        have : x = 0 := (Option.some.inj hx).symm
        rw [this]
        exact ⟨Wd.Bd.zero (by omega), fun j hj => by have := hj.1; omega⟩
      | succ j => simp at hx
    · rintro i σ H1 hi ⟨b, bs, v, rfl, s1, ho1, hbl, hil, hLg, hall⟩
      rw [List.length_map] at hi
      have hi2 : i + 1 < l.length := by omega
      have hl2 : SeqI H1 a l := hl.same s1
      have e1 : (1 : Int) + (i : Int) = ((i + 1 : Nat) : Int) := by omega
      -- while
      refine ⟨fun σ H2 => ∃ b : Nat, σ = [some (.ref a), some (.ref o), some (.int (b : Nat)), some (.int (1 + (i : Int))), none] ∧ H2 = H1 ∧ Wd.In (lw l) (i + 1) b ∧ (b = 0 ∨ lw l (i + 1) = lw l b), ?_, ?_⟩
      · refine ⟨fun m σ H2 => ∃ b : Nat, m = b ∧ σ = [some (.ref a), some (.ref o), some (.int (b : Nat)), some (.int (1 + (i : Int))), none] ∧ H2 = H1 ∧ Wd.In (lw l) (i + 1) b, ⟨b, b, rfl, rfl, rfl, Wd.In.start hLg⟩, ?_⟩
        rintro b σ H2 ⟨_, rfl, rfl, rfl, hin⟩
        refine ⟨_, rfl, _, _, rfl, rfl, _, rfl, ?_⟩
        refine ite2 (fun e => ?_) (fun e => ?_)
        · have hb0 : 0 < b := by have := of_decide_eq_true e; omega
          have hbl2 : b < i + 1 := hin.1.1
          refine ⟨_, rfl, _, rfl, ixq hl2 e1 (at_map hi2) ⟨_, rfl, _, rfl, ixq hl2 rfl (at_map (by omega)) ?_⟩⟩
          refine ⟨rfl, _, rfl, ?_⟩
          refine ite_ne (fun c => ?_) (fun c => ⟨b, rfl, rfl, hin, .inr c⟩)
          · have c : lw l (i + 1) ≠ lw l b := c
            obtain ⟨x, hx⟩ : ∃ x, bs[b - 1]? = some x := ⟨_, List.getElem?_eq_getElem (by omega)⟩
            have hL2 := hall _ _ hx
            rw [Nat.sub_add_cancel hb0] at hL2
            obtain ⟨hs1, hs2⟩ := hin.step hb0 c hL2
            refine ⟨fun σ' H' => σ' = [some (.ref a), some (.ref o), some (.int (x : Nat)), some (.int (1 + (i : Int))), none] ∧ H' = H2, fun σ' H' hN => ⟨x, hs2, x, rfl, hN.1, hN.2, hs1⟩, ?_⟩
            refine ⟨_, rfl, _, rfl, _, _, rfl, rfl, o, _, _, .int (x : Nat), rfl, rfl, .of ho1, ?_, rfl, rfl⟩
            rw [show ((b : Nat) : Int) - 1 = ((b - 1 : Nat) : Int) by omega]
            exact atI_nat (by rw [List.getElem?_map, hx]; rfl)
        · have : b = 0 := by
            rcases Nat.eq_zero_or_pos b with z | z
            · exact z
            · exact absurd (decide_eq_true (show (0 : Int) < (b : Int) by omega)) e
          exact ⟨b, rfl, rfl, hin, .inl this⟩
      · rintro σ H2 ⟨b, rfl, rfl, hin, hor⟩
        have hbl2 : b < i + 1 := hin.1.1
        -- if loop[at] == loop[border]: border += 1
        refine ⟨fun σ H3 => ∃ b : Nat, σ = [some (.ref a), some (.ref o), some (.int (b : Nat)), some (.int (1 + (i : Int))), none] ∧ H3 = H2 ∧ Wd.Lg (lw l) (i + 1 + 1) b, ?_, ?_⟩
        · refine ⟨_, rfl, _, rfl, ixq hl2 e1 (at_map hi2) ⟨_, rfl, _, rfl, ixq hl2 rfl (at_map (by omega)) ?_⟩⟩
          refine ⟨rfl, _, rfl, ite_eq (fun c => ?_) (fun c => ?_)⟩
          · have c : lw l (i + 1) = lw l b := c
            exact ⟨_, rfl, _, _, rfl, rfl, b + 1, rfl, rfl, hin.found c⟩
          · have c : lw l (i + 1) ≠ lw l b := c
            rcases hor with z | z
            · subst z
              exact ⟨0, rfl, rfl, hin.none c⟩
            · exact absurd z c
        · rintro σ H3 ⟨b, rfl, rfl, hLg2⟩
          -- borders.append(border)
          refine ⟨_, rfl, .inl ⟨rfl, _, .of ho1⟩, _, rfl, o, _, _, rfl, rfl, ho1, ?_, ?_⟩
          · rw [List.length_map]
            exact Nat.lt_of_le_of_lt (show bs.length ≤ 1000000 by omega) (by decide)
          · refine ⟨b, bs ++ [b], _, rfl, fun c u hc => ?_, by rw [upd_same, List.map_append]; rfl, by simp [hbl], by omega, hLg2, fun j x hx => ?_⟩
            · rw [upd_ne (ne_of_none hc ho)]
              exact s1 _ _ hc
            · rcases Nat.lt_or_ge j bs.length with z | z
              · rw [List.getElem?_append_left z] at hx
                exact hall j x hx
              · rw [List.getElem?_append_right z] at hx
                have hj : j - bs.length = 0 := by
                  rcases Nat.eq_zero_or_pos (j - bs.length) with y | y
                  · exact y
                  · rw [List.getElem?_eq_none (by simp; omega)] at hx
                    cases hx
                rw [hj] at hx
                have hxb : x = b := (Option.some.inj hx).symm
                rw [hxb, show j = i + 1 by omega]
                exact hLg2
    · rintro σ H1 ⟨b, bs, v, rfl, s1, ho1, hbl, hil, hLg, hall⟩
      rw [List.length_map] at hbl hil hLg
      have en : (((l.length : Nat) : Int) - 1).toNat + 1 = l.length := by omega
      rw [en] at hLg
      have hb0 : b < l.length := hLg.1.1
      have hl2 : SeqI H1 a l := hl.same s1
      -- size
      refine ⟨_, rfl, a, _, rfl, hl2.sq, _, rfl, _, _, rfl, rfl, ?_⟩
      have es : (((l.map V.int).length : Nat) : Int) - (b : Int) = ((l.length - b : Nat) : Int) := by
        rw [List.length_map]
        omega
      have em : (((l.map V.int).length : Nat) : Int) % ((((l.map V.int).length : Nat) : Int) - (b : Int)) = ((l.length % (l.length - b) : Nat) : Int) := by
        rw [es, List.length_map]
        rfl
      refine ⟨_, rfl, a, _, rfl, hl2.sq, _, rfl, _, _, rfl, rfl, (show (0 : Int) < _ by rw [es]; omega), rfl, _, rfl, ?_⟩
      have L := Wd.least_of hn hLg
      refine ite2 (fun e => ?_) (fun e => ?_)
      · have c : l.length % (l.length - b) = 0 := by
          have := V.int.inj (of_decide_eq_true e)
          rw [em] at this
          omega
        rw [if_pos c] at L
        refine ⟨_, rfl, ?_⟩
        show Q (V.int ((((l.map V.int).length : Nat) : Int) - (b : Int))) H1
        rw [es]
        exact q H1 _ s1 L
      · have c : ¬ l.length % (l.length - b) = 0 := fun z => e (decide_eq_true (congrArg V.int (by rw [em, z]; rfl)))
        rw [if_neg c] at L
        refine ⟨_, rfl, a, _, rfl, hl2.sq, ?_⟩
        show Q (V.int (((l.map V.int).length : Nat) : Int)) H1
        rw [List.length_map]
        exact q H1 _ s1 L
theorem cal_short (T : Txt K mg) : C8.Cal P w K mg base 2 "shortest_lasso" spShort [] := by
  have C_shortest_period : C8.Cal P w K mg base 1 "shortest_period" spPeriod [] := cal_period T
  obtain ⟨f, fd, F, hm, hb⟩ := T.h_shortest_lasso
  refine ⟨f, fd, _, [], F.ok sc_shortest_lasso (fun vs H Q E h => ?_) (fun cdv A outer s H vs Q E hr h => ?_), hm, F.kp, hb, .nil⟩
  · obtain ⟨a, b, h, l, rfl, _⟩ := h
    rfl
  · obtain ⟨a, b, h, l, rfl, ha, hb, hne, hh, hl, q⟩ := h
    have hn : 0 < l.length := List.length_pos_iff.mpr hne
    refine ⟨_, (pss_cons
      (ps_set (i := 2) sc_shortest_lasso.nd rfl (Or.inl rfl) (C8.pe_c C_shortest_period hr (by decide) (by rfl) (pa_cons (pv 1) pa_nil)))
      (pss_cons
      (ps_set (i := 3) sc_shortest_lasso.nd rfl (Or.inl rfl) (pe_callB (call_lenK (K := K) rfl) (by rfl) T.z_len PySem.boot_len (pa_cons (pv 0) pa_nil)))
      (C8.pss_cut
      (ps_while PassesOwn.never (PW.pt (pw_and (pt_cmpR op_gt (pv 3) pe_int (nomark _)) (pw_and1 (pt_cmpR op_eq (pe_ix (ix_seqK (K := K) rfl) (pv 0) (pe_op op_sub (pv 3) pe_int) (fun _ _ => rfl)) (pe_ix (ix_seqK (K := K) rfl) (pv 1) (pe_op op_mod (pe_op op_sub (pe_op op_sub (pv 3) pe_int) (pe_callB (call_lenK (K := K) rfl) (by rfl) T.z_len PySem.boot_len (pa_cons (pv 0) pa_nil))) (pv 2)) (fun _ _ => rfl)) (nomark _))))) (pss_one
      (ps_aug (i := 3) sc_shortest_lasso.nd rfl (.inl rfl) pe_int ip_sub)))
      (pss_cons
      (ps_set (i := 4) sc_shortest_lasso.nd rfl (Or.inl rfl) (pe_op op_mod (pe_op op_sub (pv 3) (pe_callB (call_lenK (K := K) rfl) (by rfl) T.z_len PySem.boot_len (pa_cons (pv 0) pa_nil))) (pv 2)))
      (pss_one
      (ps_ret (pe_tup (pa_cons (pe_callTy (call_tuple_ofK (K := K) rfl) (by rfl) T.z_tuple (by decide +kernel) (pa_cons (pe_slice (sl_seqK (K := K) rfl) (pv 0) po_none (po_some (pv 3))) pa_nil)) (pa_cons (pe_op (op_catK (K := K) rfl) (pe_callTy (call_tuple_ofK (K := K) rfl) (by rfl) T.z_tuple (by decide +kernel) (pa_cons (pe_slice (sl_seqK (K := K) rfl) (pv 1) (po_some (pv 4)) (po_some (pv 2))) pa_nil)) (pe_callTy (call_tuple_ofK (K := K) rfl) (by rfl) T.z_tuple (by decide +kernel) (pa_cons (pe_slice (sl_seqK (K := K) rfl) (pv 1) po_none (po_some (pv 4))) pa_nil))) pa_nil))))))))), ?_⟩
    refine ⟨_, rfl, b, l, rfl, hb, hne, by omega, fun H1 r s1 L => ?_⟩
    have ha1 := ha.same s1
    have hb1 := hb.same s1
    have hr0 := L.pos
    have hrl := least_le hn L
    have hri : (0 : Int) < (r : Int) := by omega
    -- kept = len(head)
    refine ⟨_, rfl, a, _, rfl, ha1.sq, ?_⟩
    -- while
    refine ⟨fun σ H2 => ∃ k : Nat, σ = [some (.ref a), some (.ref b), some (.int (r : Nat)), some (.int (k : Nat)), none] ∧ H2 = H1 ∧ k ≤ h.length ∧ (∀ t, k ≤ t → t < h.length → lw h t = bk l r ((t : Int) - (h.length : Int))) ∧ (k = 0 ∨ lw h (k - 1) ≠ bk l r ((k : Int) - 1 - (h.length : Int))), ?_, ?_⟩
    · refine ⟨fun m σ H2 => ∃ k : Nat, m = k ∧ σ = [some (.ref a), some (.ref b), some (.int (r : Nat)), some (.int (k : Nat)), none] ∧ H2 = H1 ∧ k ≤ h.length ∧ (∀ t, k ≤ t → t < h.length → lw h t = bk l r ((t : Int) - (h.length : Int))),
        ⟨h.length, h.length, rfl, (by rw [List.length_map]; rfl), rfl, Nat.le_refl _, fun t h1 h2 => by omega⟩, ?_⟩
      rintro k σ H2 ⟨_, rfl, rfl, rfl, hk, hB⟩
      refine ⟨_, rfl, _, _, rfl, rfl, _, rfl, ?_⟩
      refine ite_lt (fun e => ?_) (fun e => ⟨k, rfl, rfl, hk, hB, .inl (by omega)⟩)
      have ez : ((k : Int) - 1 - (((h.map V.int).length : Nat) : Int)) % (r : Int) = ((((k : Int) - 1 - (h.length : Int)) % (r : Int)).toNat : Nat) := by
        rw [List.length_map, Int.toNat_of_nonneg (Int.emod_nonneg _ (by omega))]
      refine ⟨_, rfl, _, rfl, _, _, rfl, rfl, ixq (j := k - 1) ha1 (by omega) (at_map (by omega)) ?_⟩
      refine ⟨_, rfl, _, rfl, _, _, rfl, rfl, _, rfl, a, _, rfl, ha1.sq, _, _, rfl, rfl, _, rfl, _, _, rfl, rfl, hri, ixq hb1 ez (at_map (Nat.lt_of_lt_of_le (cut_lt hr0 _) hrl)) ?_⟩
      refine ⟨rfl, _, rfl, ite_eq (fun c => ?_) (fun c => ⟨k, rfl, rfl, hk, hB, .inr c⟩)⟩
      refine ⟨fun σ' H' => σ' = [some (.ref a), some (.ref b), some (.int (r : Nat)), some (.int ((k - 1 : Nat) : Int)), none] ∧ H' = H2, fun σ' H' hN => ⟨k - 1, by omega, k - 1, rfl, hN.1, hN.2, by omega, fun t h1 h2 => ?_⟩, ?_⟩
      · rcases Nat.lt_or_ge t k with z | z
        · have : t = k - 1 := by omega
          subst this
          rw [show ((k - 1 : Nat) : Int) - (h.length : Int) = (k : Int) - 1 - (h.length : Int) by omega]
          exact c
        · exact hB t z h2
      · refine ⟨_, rfl, _, _, rfl, rfl, ?_, rfl⟩
        show [some (V.ref a), some (.ref b), some (.int (r : Nat)), some (.int ((k : Int) - 1)), none] = _
        rw [show (k : Int) - 1 = ((k - 1 : Nat) : Int) by omega]
    · rintro σ H2 ⟨k, rfl, rfl, hk, hB, hX⟩
      -- cut
      refine ⟨_, rfl, _, rfl, a, _, rfl, ha1.sq, _, _, rfl, rfl, _, rfl, _, _, rfl, rfl, hri, ?_⟩
      have ec : ((k : Int) - (((h.map V.int).length : Nat) : Int)) % (r : Int) = ((((k : Int) - (h.length : Int)) % (r : Int)).toNat : Nat) := by
        rw [List.length_map, Int.toNat_of_nonneg (Int.emod_nonneg _ (by omega))]
      have hc := cut_lt hr0 ((k : Int) - (h.length : Int))
      -- tuple(head[:kept])
      refine ⟨_, rfl, _, rfl, k, rfl, ?_⟩
      refine slq_to ha1 rfl fun H3 p3 s3 e3 => ?_
      walk_at "nl"
      refine tupq e3 fun H4 p4 s4 e4 => ?_
      have hb4 := (hb1.same s3).same s4
      refine ⟨_, rfl, _, rfl, _, rfl, _, rfl, _, rfl, ?_⟩
      refine slq_mid hb4 ec rfl (by omega) hrl fun H5 p5 s5 e5 => ?_
      walk_at "nl"
      refine tupq e5 fun H6 p6 s6 e6 => ?_
      have hb6 := (hb4.same s5).same s6
      refine ⟨_, rfl, _, rfl, _, rfl, ?_⟩
      refine slq_to hb6 ec fun H7 p7 s7 e7 => ?_
      walk_at "nl"
      refine tupq e7 fun H8 p8 s8 e8 => ?_
      have S68 := s7.trans s8
      refine catq (S68 _ _ e6) e8 ?_ fun H9 p9 s9 e9 => ?_
      · rw [List.length_take, List.length_drop, List.length_take]
        omega
      refine ⟨by show 2 ≤ sizeLine; decide, fun p hp => ?_⟩
      have s10 : Same H9 (upd H9 p (.tup [.ref p4, .ref p9])) := same_new hp
      refine q _ p (h.take k) (rot l r (((k : Int) - (h.length : Int)) % (r : Int)).toNat) ?_ ⟨p4, p9, upd_same, ?_, s10 _ _ e9⟩ (short_of hne L hk hB hX)
      · exact s1.trans (s3.trans (s4.trans (s5.trans (s6.trans (S68.trans (s9.trans s10))))))
      · exact s10 _ _ (s9 _ _ (S68 _ _ (s6 _ _ (s5 _ _ e4))))
theorem cal_suffix (T : Txt K mg) : C8.Cal P w K mg base 3 "suffix" spSuffix [] := by
  have C_shortest_lasso : C8.Cal P w K mg base 2 "shortest_lasso" spShort [] := cal_short T
  obtain ⟨f, fd, F, hm, hb⟩ := T.h_suffix
  refine ⟨f, fd, _, [], F.ok sc_suffix (fun vs H Q E h => ?_) (fun cdv A outer s H vs Q E hr h => ?_), hm, F.kp, hb, .nil⟩
  · obtain ⟨p, h, l, t, rfl, _⟩ := h
    rfl
  · obtain ⟨p, h, l, t, rfl, ⟨a, b, e1, e2, e3⟩, hne, hh, hl, q⟩ := h
    have hn : 0 < l.length := List.length_pos_iff.mpr hne
    have t2 : TupI H a h := e2
    have t3 : TupI H b l := e3
    refine ⟨_, (pss_cons
      (ps_if (pt_cmpR op_lt (pv 1) pe_int (nomark _)) (pss_one
      ps_never) pss_nil)
      (pss_cons
      (ps_asg (pv 0) (pg_tup (by rfl) (pgs_cons (pg_name (i := 2) sc_suffix.nd rfl (.inl rfl)) (pgs_cons (pg_name (i := 3) sc_suffix.nd rfl (.inl rfl)) pgs_nil))))
      (pss_cons
      (ps_if (pt_cmpR op_lt (pv 1) (pe_callB (call_lenK (K := K) rfl) (by rfl) T.z_len PySem.boot_len (pa_cons (pv 2) pa_nil)) (nomark _)) (pss_one
      (ps_ret (C8.pe_c C_shortest_lasso hr (by decide) (by rfl) (pa_cons (pe_slice (sl_tupK (K := K) rfl) (pv 2) (po_some (pv 1)) po_none) (pa_cons (pv 3) pa_nil))))) pss_nil)
      (pss_cons
      (ps_set (i := 4) sc_suffix.nd rfl (Or.inl rfl) (pe_op op_mod (pe_op op_sub (pv 1) (pe_callB (call_lenK (K := K) rfl) (by rfl) T.z_len PySem.boot_len (pa_cons (pv 2) pa_nil))) (pe_callB (call_lenK (K := K) rfl) (by rfl) T.z_len PySem.boot_len (pa_cons (pv 3) pa_nil))))
      (pss_one
      (ps_ret (C8.pe_c C_shortest_lasso hr (by decide) (by rfl) (pa_cons (pe_tup pa_nil) (pa_cons (pe_op (op_catK (K := K) rfl) (pe_slice (sl_tupK (K := K) rfl) (pv 3) (po_some (pv 4)) po_none) (pe_slice (sl_tupK (K := K) rfl) (pv 3) po_none (po_some (pv 4)))) pa_nil))))))))), ?_⟩
    walk_at "bx"
    refine ⟨p, _, rfl, .of e1, rfl, _, _, rfl, _, _, rfl, rfl, ?_⟩
    refine ⟨_, rfl, _, rfl, a, _, rfl, .inr (.of e2), _, _, rfl, rfl, _, rfl, ite_lt (fun c => ?_) (fun c => ?_)⟩
    · rw [List.length_map] at c
      have c0 : t < h.length := by omega
      refine ⟨_, rfl, _, rfl, t, rfl, ?_⟩
      walk_at "nl"
      refine slt_from t2 rfl (by omega) fun H1 p1 s1 e4 => ?_
      refine ⟨_, rfl, p1, b, h.drop t, l, rfl, .inr e4, .inr (s1 _ _ e3), hne, by rw [List.length_drop]; omega, by omega, fun H2 p2 h' l' s2 L S => ?_⟩
      refine q H2 p2 h' l' (s1.trans s2) L ⟨S.nrm, fun i => by rw [S.same, suf_drop c0], ?_, S.ll, fun x hx => .inl (List.mem_of_mem_drop (S.memH x hx)), S.memL⟩
      have := S.hl
      rw [List.length_drop] at this
      omega
    · rw [List.length_map] at c
      have c0 : h.length ≤ t := by omega
      -- cut
      refine ⟨_, rfl, _, rfl, a, _, rfl, .inr (.of e2), _, _, rfl, rfl, _, rfl, b, _, rfl, .inr (.of e3), _, _, rfl, rfl, (show (0 : Int) < _ by rw [List.length_map]; omega), ?_⟩
      have ec : ((t : Int) - (((h.map V.int).length : Nat) : Int)) % (((l.map V.int).length : Nat) : Int) = (((t - h.length) % l.length : Nat) : Int) := by
        rw [List.length_map, List.length_map]
        exact ix_mod c0
      have hc := Nat.mod_lt (t - h.length) hn
      refine ⟨Nat.zero_le _, fun p0 hp0 => ?_⟩
      have s0 : Same H (upd H p0 (.tup [])) := same_new hp0
      have t30 : TupI (upd H p0 (.tup [])) b l := s0 _ _ e3
      refine ⟨_, rfl, _, rfl, _, rfl, ?_⟩
      walk_at "nl"
      refine slt_from t30 ec (by omega) fun H1 p1 s1 e4 => ?_
      have t31 : TupI H1 b l := s1 _ _ t30
      refine ⟨_, rfl, _, rfl, _, rfl, ?_⟩
      refine slt_to t31 ec fun H2 p2 s2 e5 => ?_
      have e42 : TupI H2 p1 _ := s2 _ _ e4
      refine catq e42 e5 (by rw [List.length_drop, List.length_take]; omega) fun H3 p3 s3 e6 => ?_
      have e0 : TupI H3 p0 [] := s3 _ _ (s2 _ _ (s1 _ _ upd_same))
      have hlen : (l.drop ((t - h.length) % l.length) ++ l.take ((t - h.length) % l.length)).length = l.length := by
        rw [List.length_append, List.length_drop, List.length_take]
        omega
      refine ⟨p0, p3, [], _, rfl, .inr e0, .inr e6, fun z => ?_, Nat.zero_le _, by omega, fun H4 p4 h' l' s4 L S => ?_⟩
      · rw [z] at hlen
        have : (0 : Nat) = l.length := hlen
        omega
      have mem : ∀ x, x ∈ l.drop ((t - h.length) % l.length) ++ l.take ((t - h.length) % l.length) → x ∈ l := fun x hx => by
        rcases List.mem_append.mp hx with z | z
        · exact List.mem_of_mem_drop z
        · exact List.mem_of_mem_take z
      refine q H4 p4 h' l' (s0.trans (s1.trans (s2.trans (s3.trans s4)))) L ⟨S.nrm, fun i => by rw [S.same, suf_turn hne c0], Nat.le_trans S.hl (Nat.zero_le _), by have := S.ll; omega, fun x hx => ?_, fun x hx => mem x (S.memL x hx)⟩
      have := S.memH x hx
      cases this
theorem cal_checkX {cL : Addr} (T : Txt K mg) (eL : ErrC K mg "InvalidLetter" cL) : CalX P w K mg base 1 "check_letters" (spCheckX cL) := by
  obtain ⟨f, fd, F, hm, hb⟩ := T.h_check_letters
  refine ⟨f, fd, _, F.okX sc_check_letters (fun vs H Q E h => ?_) (fun cdv A outer s H vs Q E hr h => ?_), hm, F.kp, hb⟩
  · obtain ⟨p, h, l, n, rfl, _⟩ := h
    rfl
  · obtain ⟨p, h, l, n, rfl, ⟨a, b, e1, e2, e3⟩, hne, hh, hl, q1, q2⟩ := h
    have t2 : TupI H a h := e2
    have t3 : TupI H b l := e3
    refine ⟨_, (pss_cons
      (ps_asg (pv 0) (pg_tup (by rfl) (pgs_cons (pg_name (i := 2) sc_check_letters.nd rfl (.inl rfl)) (pgs_cons (pg_name (i := 3) sc_check_letters.nd rfl (.inl rfl)) pgs_nil))))
      (pss_one
      (ps_if (pt_cmpR op_ge (pe_callB (call_maxT (K := K) rfl rfl) (by rfl) T.z_max (by decide +kernel) (pa_cons (pe_op (op_catK (K := K) rfl) (pv 2) (pv 3)) pa_nil)) (pv 1) (nomark _)) (pss_one
      (ps_raise rfl (takes_of rfl rfl rfl rfl) (eL.made rfl))) pss_nil))), ?_⟩
    refine ⟨_, rfl, p, _, rfl, .of e1, rfl, _, _, rfl, _, _, rfl, rfl, ?_⟩
    refine ⟨_, rfl, _, rfl, ?_⟩
    refine catq t2 t3 (by omega) fun H1 p1 s1 e4 => ?_
    refine ⟨p1, h ++ l, rfl, .of e4, fun z => hne (List.append_eq_nil_iff.mp z).2, fun m hm hmax => ⟨_, rfl, _, _, rfl, rfl, _, rfl, ?_⟩⟩
    refine ite2 (fun c => ?_) (fun c => ?_)
    · exact q1 ⟨m, List.mem_append.mp hm, of_decide_eq_true c⟩ H1 s1
    · refine q2 (fun x hx => ?_) H1 s1
      have x1 := hmax x (List.mem_append.mpr hx)
      have x2 : ¬ (n : Int) ≤ m := fun z => c (decide_eq_true z)
      omega
section
variable {X : Cx} {k j : Nat} {C g : Addr} {fd : FuncData} {ps : List Str} {sp : Sp} {fe e : Expr} {es : List Expr} {pos : Pos} {tf : TE} {t : TA}
/-- f(e, ..), f an instance of C that may be called -/
def tObj (C : Addr) (sp : Sp) (E : L2.St → XK) (tf : TE) (t : TA) : TE := fun σ H Q => tf σ H fun y H1 => ∃ a, y = V.ref a ∧ t σ H1 fun vs H2 => (∃ dx fs, H2 a = some (.ins C dx fs)) ∧ sp (V.ref a :: vs) H2 Q (E σ)
theorem run_obj {pins : List (Addr × Obj)} {σ : L2.St} {H : Hp} {s : Shared} {Q : VK} {a : Addr} {us : List Value} {vs : List V} {E : XK} (c : StX.CallO X.K C g) (F : FnOk X.prog X.w X.K X.mg X.base (L2.CX X.prog X.w) k g fd ps sp) (hr : Room k X.A) (hb : Binds X.K fd ps []) (hx : PassesAt (L2.CX X.prog X.w) X σ E)
    (I : Inv X pins σ H s) (hi : ∃ dx fs, H a = some (.ins C dx fs)) (r : Vals vs us) (h : sp (V.ref a :: vs) H Q E) : wpAny (model X.prog X.w) X.A (call (.ref a) us) (EP X pins σ Q) X.xe s := by
  obtain ⟨ox, od, J, hd⟩ := StX.insC_at I (.inr hi)
  have r2 : Vals (V.ref a :: vs) (Value.ref a :: us) := .cons rfl r
  have hl : (Value.ref a :: us).length = ps.length := by rw [← r2.length]; exact F.len _ _ _ _ h
  have b := hb s (Value.ref a :: us) I.kIn (by rw [List.append_nil]; exact hl)
  rw [List.append_nil] at b
  refine wpAny_call (PySem.W.kco_code I.kIn J hd c.at_ c.fn c.fi (codeAny_mono (F.run X.A X.stack s H ⟨Value.ref a :: us, []⟩ (Value.ref a :: us) (V.ref a :: vs) Q E hr I.env0 b r2 h) fun r s' hq => ?_))
  cases r with
  | error e => exact hx pins H s e s' I hq
  | ok fl =>
    cases fl with
    | ret u => exact I.after hq
    | next => exact False.elim hq
    | brk => exact False.elim hq
    | cont => exact False.elim hq
theorem pe_objX {W : WX} (hf : PE X fe tf) (c : StX.CallO X.K C g) (F : FnOk X.prog X.w X.K X.mg X.base (L2.CX X.prog X.w) k g fd ps sp) (hb : Binds X.K fd ps []) (hr : Room j X.A) (hk : k ≤ j) (tk : Takes X W) (ha : PA X (e :: es) t)
    (ht : eval (.Call fe (e :: es) [] pos) X.env = (do callWith pos (← eval fe X.env) [] (backTo pos (starEach (e :: es) X.env)) (backToKw pos (keywordEach [] X.env))) := by rfl)
    (he : starEach (e :: es) X.env = (false, eval e X.env) :: starEach es X.env := by rfl) (hpl : (backTo pos (starEach es X.env)).any (·.1) = false := by rfl) : PE X (.Call fe (e :: es) [] pos) (tObj C sp (WE W) tf t) := by
  refine ⟨fun pins s σ H Q I h => ?_⟩
  refine Call_ (thn (hf.run pins s σ H _ I h) fun u s1 ⟨y, H1, I1, ry, a, ey, q⟩ => ?_) ht
  subst ey
  obtain rfl : u = Value.ref a := ry
  refine StX.callO_with (thn (ha.run pos pins s1 σ H1 _ I1 q) fun us s2 ⟨vs, H2, I2, r, hi, q2⟩ => ?_) he hpl
  obtain ⟨ox, od, J, hd⟩ := StX.insC_at I2 (.inr hi)
  exact ⟨⟨C, ox, od, J, hd⟩, run_obj c F (hr.mono hk) hb (passAt tk σ) I2 hi r q2⟩
theorem pe_objN (hf : PE X fe tf) (c : StX.CallO X.K C g) (F : FnOk X.prog X.w X.K X.mg X.base (L2.CX X.prog X.w) k g fd ps sp) (hb : Binds X.K fd ps []) (hr : Room j X.A) (hk : k ≤ j) (ha : PA X (e :: es) t)
    (ht : eval (.Call fe (e :: es) [] pos) X.env = (do callWith pos (← eval fe X.env) [] (backTo pos (starEach (e :: es) X.env)) (backToKw pos (keywordEach [] X.env))) := by rfl)
    (he : starEach (e :: es) X.env = (false, eval e X.env) :: starEach es X.env := by rfl) (hpl : (backTo pos (starEach es X.env)).any (·.1) = false := by rfl) : PE X (.Call fe (e :: es) [] pos) (tObj C sp (fun _ => fun _ _ _ => False) tf t) := by
  refine ⟨fun pins s σ H Q I h => ?_⟩
  refine Call_ (thn (hf.run pins s σ H _ I h) fun u s1 ⟨y, H1, I1, ry, a, ey, q⟩ => ?_) ht
  subst ey
  obtain rfl : u = Value.ref a := ry
  refine StX.callO_with (thn (ha.run pos pins s1 σ H1 _ I1 q) fun us s2 ⟨vs, H2, I2, r, hi, q2⟩ => ?_) he hpl
  obtain ⟨ox, od, J, hd⟩ := StX.insC_at I2 (.inr hi)
  exact ⟨⟨C, ox, od, J, hd⟩, run_obj c F (hr.mono hk) hb (fun pins G v e v' J q => passF pins σ G v e v' J q) I2 hi r q2⟩
end
theorem sameM_made {C x dx : Addr} {H1 H2 : Hp} (hx : H1 x = none) (hd : H1 dx = none) (k : Kp x (upd (upd H1 dx (.own x)) x (.ins C dx [])) H2) : Same H1 H2 := fun b o hb => by
  have n1 : b ≠ x := fun z => by rw [z, hx] at hb; cases hb
  have n2 : b ≠ dx := fun z => by rw [z, hd] at hb; cases hb
  refine k _ _ n1 ?_
  rw [upd_ne n1, upd_ne n2]
  exact hb
theorem sameM_fresh {C x dx : Addr} {H1 : Hp} (hx : H1 x = none) (hd : H1 dx = none) : Same H1 (upd (upd H1 dx (.own x)) x (.ins C dx [])) := sameM_made hx hd (Kp.refl _ _)
theorem cal_take (T : Txt K mg) : C8.Cal P w K mg base 1 "_law_take" spTake [] := by
  obtain ⟨f, fd, F, hm, hb⟩ := T.h_law_take
  refine ⟨f, fd, _, [], F.ok sc_law_take (fun vs H Q E h => ?_) (fun cdv A outer s H vs Q E hr h => ?_), hm, F.kp, hb, .nil⟩
  · obtain ⟨d, n, rfl, _⟩ := h
    rfl
  · obtain ⟨d, n, rfl, ⟨ds, hd⟩, hn, q⟩ := h
    refine ⟨_, (pss_cons
      (ps_if (pt_cmpR op_eq (pe_callB (call_lenK (K := K) rfl) (by rfl) T.z_len PySem.boot_len (pa_cons (pv 0) pa_nil)) pe_int (nomark _)) (pss_one
      (ps_ret pe_int)) pss_nil)
      (pss_one
      (ps_ret (pe_op op_mod (pe_callTy call_int1 (by rfl) T.z_int (by decide +kernel) (pa_cons (pe_bm0 PySem.F.plainAttrs_list PySem.F.slot_list_pop PySem.F.type_list_pop mt_pop (pv 0)) pa_nil)) (pv 1))))), ?_⟩
    walk_at "bx"
    refine ite2 (fun e => ?_) (fun e => ?_)
    · have q0 := q 0 ds (Int.le_refl 0) hn
      rw [upd_self hd] at q0
      exact q0
    · have hne : ds ≠ [] := fun z => e (by rw [z]; rfl)
      refine ⟨_, rfl, .inl ⟨rfl, _, SqL.of hd⟩, d, _, .int (ds.getLast hne), rfl, rfl, hd, ?_, ?_⟩
      · rw [List.length_map, List.getElem?_map, ← List.getLast?_eq_getElem?, List.getLast?_eq_getLast hne]
        rfl
      · walk_at "bx"
        rw [← List.map_dropLast]
        exact q _ _ (Int.emod_nonneg _ (by omega)) (Int.emod_lt_of_pos _ hn)
theorem cal_isint (T : Txt K mg) : C8.Cal P w K mg base 1 "_law_is_integer" spIsInt [] := by
  obtain ⟨f, fd, F, hm, hb⟩ := T.h_law_is_integer
  refine ⟨f, fd, _, [], F.ok sc_law_is_integer (fun vs H Q E h => ?_) (fun cdv A outer s H vs Q E hr h => ?_), hm, F.kp, hb, .nil⟩
  · obtain ⟨i, rfl, _⟩ := h
    rfl
  · obtain ⟨i, rfl, q⟩ := h
    refine ⟨_, (pss_one
      (ps_ret (pe_and (pe_callB (call_isiK' (K := K) rfl) (by rfl) T.z_isinstance (by decide +kernel) (pa_cons (pv 0) (pa_cons (pe_bltn (v := .ty "int") (by rfl) T.z_int (by decide +kernel) rfl) pa_nil))) (pe_one (pe_not (pe_callB (call_isiK' (K := K) rfl) (by rfl) T.z_isinstance (by decide +kernel) (pa_cons (pv 0) (pa_cons (pe_bltn (v := .ty "bool") (by rfl) T.z_bool (by decide +kernel) rfl) pa_nil)))))))), ?_⟩
    refine ⟨_, rfl, _, _, _, _, true, rfl, .ty "int", .base (.int i), kit_ty (by decide +kernel), true, rfl, iteT ?_⟩
    exact ⟨_, rfl, _, _, _, _, false, rfl, .ty "bool", .base (.int i), kit_ty (by decide +kernel), false, rfl, q⟩
theorem cal_draws (T : Txt K mg) : C8.Cal P w K mg base 1 "_law_draws" (spDraws K) [] := by
  obtain ⟨f, fd, F, hm, hb⟩ := T.h_law_draws
  refine ⟨f, fd, _, [], F.ok sc_law_draws (fun vs H Q E h => ?_) (fun cdv A outer s H vs Q E hr h => ?_), hm, F.kp, hb, .nil⟩
  · obtain ⟨a, ns, c, rfl, _⟩ := h
    rfl
  · obtain ⟨a, ns, n, rfl, hS, hn, q⟩ := h
    refine ⟨_, (pss_cons
      (ps_set (i := 2) sc_law_draws.nd rfl (Or.inl rfl) (pe_callTy (call_list_ofK (K := K) rfl) (by rfl) T.z_list (by decide +kernel) (pa_cons (pv 0) pa_nil)))
      (C8.pss_cut
      (ps_if (pt_cmpR op_eq (pe_callB (call_lenK (K := K) rfl) (by rfl) T.z_len PySem.boot_len (pa_cons (pv 2) pa_nil)) pe_int (nomark _)) (pss_one
      (ps_set (i := 2) sc_law_draws.nd rfl (Or.inl rfl) (pe_lst (pa_cons pe_int pa_nil)))) pss_nil)
      (pss_cons
      (ps_set (i := 3) sc_law_draws.nd rfl (Or.inl rfl) (pe_lst pa_nil))
      (pss_cons
      (ps_set (i := 4) sc_law_draws.nd rfl (Or.inl rfl) pe_int)
      (pss_cons
      (ps_for PassesOwn.never rfl (pi_range1 (by rfl) T.z_range (pa_cons (pv 1) pa_nil)) (pg_name (i := 5) sc_law_draws.nd rfl (.inl rfl)) (pss_cons
      (ps_set (i := 6) sc_law_draws.nd rfl (Or.inl rfl) (pe_op op_mod (pv 5) (pe_callB (call_lenK (K := K) rfl) (by rfl) T.z_len PySem.boot_len (pa_cons (pv 2) pa_nil))))
      (pss_cons
      (ps_set (i := 7) sc_law_draws.nd rfl (Or.inl rfl) (pe_ix (ix_listK (K := K) rfl) (pv 2) (pv 6) (fun _ _ => rfl)))
      (pss_cons
      (ps_set (i := 4) sc_law_draws.nd rfl (Or.inl rfl) (pe_op op_mod (pe_callTy call_int1 (by rfl) T.z_int (by decide +kernel) (pa_cons (pe_op op_add (pe_op op_add (pe_op op_add (pe_op op_mul (pv 4) pe_int) (pe_op op_mul (pe_op op_mod (pe_callTy call_int1 (by rfl) T.z_int (by decide +kernel) (pa_cons (pv 7) pa_nil)) pe_int) pe_int)) (pe_op op_mul (pv 5) pe_int)) pe_int) pa_nil)) pe_int))
      (pss_cons
      (ps_set (i := 8) sc_law_draws.nd rfl (Or.inl rfl) (pe_op op_mod (pe_callTy call_int1 (by rfl) T.z_int (by decide +kernel) (pa_cons (pe_op op_add (pe_op op_add (pe_op op_mul (pv 4) (pv 4)) (pe_op op_mul pe_int (pv 4))) (pv 5)) pa_nil)) pe_int))
      (pss_one
      (ps_if (pt_cmpR op_ge (pv 7) (pe_op op_pow pe_int pe_int) (nomark _)) (pss_cons
      (ps_expr (pe_bm PySem.F.plainAttrs_list PySem.F.slot_list_append PySem.F.type_list_append mt_append (pv 3) (pa_cons (pe_op op_mod (pe_callTy call_int1 (by rfl) T.z_int (by decide +kernel) (pa_cons (pv 7) pa_nil)) pe_int) pa_nil)))
      (pss_one
      (ps_asg (pe_op op_fdiv (pv 7) pe_int) (pg_sub (pv 2) (pv 6) set_list)))) (pss_one
      (ps_expr (pe_bm PySem.F.plainAttrs_list PySem.F.slot_list_append PySem.F.type_list_append mt_append (pv 3) (pa_cons (pe_op op_mod (pe_callTy call_int1 (by rfl) T.z_int (by decide +kernel) (pa_cons (pv 8) pa_nil)) pe_int) pa_nil)))))))))))
      (pss_cons
      (ps_expr (pe_bm0 PySem.F.plainAttrs_list PySem.F.slot_list_reverse PySem.F.type_list_reverse mt_reverse (pv 3)))
      (pss_one
      (ps_ret (pv 3))))))))), ?_⟩
    -- cells = list(script)
    refine ⟨_, rfl, a, _, rfl, .inl hS, fun l hl => ?_⟩
    -- if len(cells) == 0: cells = [7]
    refine ⟨fun σ H2 => ∃ (c : Addr) (cs : List Int), σ = [some (.ref a), some (.int n), some (.ref c), none, none, none, none, none, none] ∧ H c = none ∧ Same H H2 ∧ H2 c = some (.lst (cs.map V.int)) ∧ cs ≠ [], ?_, ?_⟩
    · have h0 : (upd H l (.lst (ns.map V.int))) l = some (.lst (ns.map V.int)) := upd_same
      walk_at "bx"
      refine ite2 (fun e => ?_) (fun e => ?_)
      · refine ⟨by show 1 ≤ sizeLine; decide, fun l2 h2 => ?_⟩
        have s1 : Same H (upd H l (.lst (ns.map V.int))) := same_new hl
        exact ⟨l2, [7], rfl, s1.free h2, s1.trans (same_new h2), upd_same, by decide⟩
      · exact ⟨l, ns, rfl, hl, same_new hl, upd_same, fun z => e (by rw [z]; rfl)⟩
    · rintro σ H2 ⟨c, cs, rfl, hc0, s2, hc, hcs⟩
      -- found = [], mixed = 12345
      refine ⟨Nat.zero_le _, fun o ho => ?_⟩
      have hco : c ≠ o := ne_of_none hc ho
      have ho0 : H o = none := s2.free ho
      -- for k in range(count)
      refine ⟨_, rfl, _, rfl, by omega, by omega, for_range (lo := 0) (n := ((n : Int)).toNat) (fun i σ H3 => ∃ (m : Int) (cs fs : List Int) (v5 v6 v7 v8 : Option V), σ = [some (.ref a), some (.int n), some (.ref c), some (.ref o), some (.int m), v5, v6, v7, v8] ∧ 0 ≤ m ∧ m < 2147483647 ∧ Same H H3 ∧ H3 c = some (.lst (cs.map V.int)) ∧ cs ≠ [] ∧ H3 o = some (.lst (fs.map V.int)) ∧ fs.length ≤ i)
        ⟨12345, cs, [], none, none, none, none, rfl, by decide, by decide, s2.trans (same_new ho), by rw [upd_ne hco]; exact hc, hcs, upd_same, Nat.le_refl _⟩ ?_ ?_⟩
      · rintro i σ H3 hi ⟨m, cs, fs, v5, v6, v7, v8, rfl, m0, m1, s3, hc, hcs, hf, hfl⟩
        have hl : 0 < cs.length := List.length_pos_iff.mpr hcs
        obtain ⟨z, hz⟩ : ∃ z, cs[i % cs.length]? = some z := ⟨_, List.getElem?_eq_getElem (Nat.mod_lt _ hl)⟩
        have ej : ((0 : Int) + (i : Int)) % (((cs.map V.int).length : Nat) : Int) = ((i % cs.length : Nat) : Int) := by
          rw [Int.zero_add, List.length_map]
          rfl
        -- j = k % len(cells)
        walk_at "bx"
        refine ⟨(show (0 : Int) < _ by rw [List.length_map]; omega), ?_⟩
        -- cell = cells[j]
        refine ⟨_, rfl, _, rfl, c, _, _, .int z, rfl, rfl, SqL.of hc, ?_, ?_⟩
        · rw [ej]
          exact atI_nat (by rw [List.getElem?_map, hz]; rfl)
        -- mixed, again
        walk_at "bx"
        have b1 : (0 : Int) ≤ z % 1000003 := Int.emod_nonneg _ (by decide)
        refine ⟨.inl ⟨?_, ?_⟩, ?_⟩
        · have := Int.emod_nonneg (m * 48271 + z % 1000003 * 69621 + (0 + (i : Int)) * 7919 + 11) (show (2147483647 : Int) ≠ 0 by decide)
          show -(2 ^ 64) < (m * 48271 + z % 1000003 * 69621 + (0 + (i : Int)) * 7919 + 11) % 2147483647
          omega
        · have := Int.emod_lt_of_pos (m * 48271 + z % 1000003 * 69621 + (0 + (i : Int)) * 7919 + 11) (show (0 : Int) < 2147483647 by decide)
          show (m * 48271 + z % 1000003 * 69621 + (0 + (i : Int)) * 7919 + 11) % 2147483647 < 2 ^ 64
          omega
        have c0 : 0 ≤ (m * 48271 + z % 1000003 * 69621 + (0 + (i : Int)) * 7919 + 11) % 2147483647 := Int.emod_nonneg _ (by decide)
        have c1 : (m * 48271 + z % 1000003 * 69621 + (0 + (i : Int)) * 7919 + 11) % 2147483647 < 2147483647 := Int.emod_lt_of_pos _ (by decide)
        walk_at "bx"
        refine ite2 (fun e => ?_) (fun e => ?_)
        · walk_at "bx"
          refine ⟨lenI (by omega), ?_⟩
          walk_at "bx"
          refine ⟨c, cs.map V.int, _, i % cs.length, rfl, rfl, by rw [upd_ne hco]; exact hc, by rw [ej]; exact ixN_at (by rw [List.length_map]; exact Nat.mod_lt _ hl), ?_⟩
          refine ⟨_, cs.set (i % cs.length) (z / 1000), fs ++ [z % 1000], _, _, _, _, rfl, c0, c1, fun b o' hb => ?_, by rw [upd_same, set_mapI], by simpa using hcs, by rw [upd_ne hco.symm, upd_same]; simp, by simp; omega⟩
          rw [upd_ne (fun z => by rw [z, hc0] at hb; cases hb), upd_ne (fun z => by rw [z, ho0] at hb; cases hb)]
          exact s3 _ _ hb
        · walk_at "bx"
          refine ⟨lenI (by omega), ?_⟩
          refine ⟨_, cs, fs ++ [_], _, _, _, _, rfl, c0, c1, fun b o' hb => ?_, by rw [upd_ne hco]; exact hc, hcs, by rw [upd_same, List.map_append]; rfl, by simp; omega⟩
          rw [upd_ne (fun z => by rw [z, ho0] at hb; cases hb)]
          exact s3 _ _ hb
      · rintro σ H3 ⟨m, cs, fs, v5, v6, v7, v8, rfl, m0, m1, s3, hc, hcs, hf, hfl⟩
        -- found.reverse()
        walk_at "bx"
        refine q _ o (fun b o' hb => ?_) ho0 ⟨fs.reverse, ?_⟩
        · rw [upd_ne (fun z => by rw [z, ho0] at hb; cases hb)]
          exact s3 _ _ hb
        · rw [upd_same, List.map_reverse]
theorem cal_at (T : Txt K mg) : C8.Cal P w K mg base 1 "_law_at" spAt [] := by
  obtain ⟨f, fd, F, hm, hb⟩ := T.h_law_at
  refine ⟨f, fd, _, [], F.ok sc_law_at (fun vs H Q E h => ?_) (fun cdv A outer s H vs Q E hr h => ?_), hm, F.kp, hb, .nil⟩
  · obtain ⟨p, h, l, t, rfl, _⟩ := h
    rfl
  · obtain ⟨p, h, l, t, rfl, ⟨a, b, e1, e2, e3⟩, hn, q⟩ := h
    have i0 : atI [V.ref a, V.ref b] 0 = some (.ref a) := rfl
    have i1 : atI [V.ref a, V.ref b] 1 = some (.ref b) := rfl
    have hl : 0 < l.length := List.length_pos_iff.mpr hn
    refine ⟨_, (pss_cons
      (ps_if (pt_cmpR op_lt (pv 1) (pe_callB (call_lenK (K := K) rfl) (by rfl) T.z_len PySem.boot_len (pa_cons (pe_ix (ix_tupK (K := K) rfl) (pv 0) pe_int (fun _ _ => rfl)) pa_nil)) (nomark _)) (pss_one
      (ps_ret (pe_ix (ix_seqK (K := K) rfl) (pe_ix (ix_tupK (K := K) rfl) (pv 0) pe_int (fun _ _ => rfl)) (pv 1) (fun _ _ => rfl)))) pss_nil)
      (pss_one
      (ps_ret (pe_ix (ix_seqK (K := K) rfl) (pe_ix (ix_tupK (K := K) rfl) (pv 0) pe_int (fun _ _ => rfl)) (pe_op op_mod (pe_callTy call_int1 (by rfl) T.z_int (by decide +kernel) (pa_cons (pe_op op_sub (pv 1) (pe_callB (call_lenK (K := K) rfl) (by rfl) T.z_len PySem.boot_len (pa_cons (pe_ix (ix_tupK (K := K) rfl) (pv 0) pe_int (fun _ _ => rfl)) pa_nil))) pa_nil)) (pe_callB (call_lenK (K := K) rfl) (by rfl) T.z_len PySem.boot_len (pa_cons (pe_ix (ix_tupK (K := K) rfl) (pv 0) pe_int (fun _ _ => rfl)) pa_nil))) (fun _ _ => rfl))))), ?_⟩
    walk_at "bx"
    refine ite2 (fun e => ?_) (fun e => ?_)
    · have e0 : t < h.length := by
        have := of_decide_eq_true e
        rw [List.length_map] at this
        omega
      walk_at "bx"
      exact ixq e2 rfl (wat_head e0) q
    · have e0 : ¬ t < h.length := fun z => e (decide_eq_true (by rw [List.length_map]; omega))
      walk_at "bx"
      refine ⟨(show (0 : Int) < _ by rw [List.length_map]; omega), ?_⟩
      exact ixq e3 (by rw [List.length_map, List.length_map]; exact ix_mod (Nat.le_of_not_lt e0)) (wat_loop e0 hn) q
theorem cal_ints (T : Txt K mg) : C8.Cal P w K mg base 2 "_law_integers" spInts [] := by
  have C_law_is_integer : C8.Cal P w K mg base 1 "_law_is_integer" spIsInt [] := cal_isint T
  obtain ⟨f, fd, F, hm, hb⟩ := T.h_law_integers
  refine ⟨f, fd, _, [], F.ok sc_law_integers (fun vs H Q E h => ?_) (fun cdv A outer s H vs Q E hr h => ?_), hm, F.kp, hb, .nil⟩
  · obtain ⟨a, xs, lo, hi, rfl, _⟩ := h
    rfl
  · obtain ⟨a, xs, lo, hi, rfl, ht, hx, q⟩ := h
    refine ⟨_, (pss_cons
      (ps_if (pt_not (pt_val (pe_callB (call_isiK' (K := K) rfl) (by rfl) T.z_isinstance (by decide +kernel) (pa_cons (pv 0) (pa_cons (pe_bltn (v := .ty "tuple") (by rfl) T.z_tuple (by decide +kernel) rfl) pa_nil))))) (pss_one
      (ps_ret pe_bl)) pss_nil)
      (pss_cons
      (ps_for PassesOwn.never rfl (pi_tup (pv 0)) (pg_name (i := 3) sc_law_integers.nd rfl (.inl rfl)) (pss_one
      (ps_if (PW.pt (pw_or (pt_not (pt_val (C8.pe_c C_law_is_integer hr (by decide) (by rfl) (pa_cons (pv 3) pa_nil)))) (pw_or (pt_cmpR op_lt (pv 3) (pv 1) (nomark _)) (pw_or1 (pt_cmpR op_ge (pv 3) (pv 2) (nomark _)))))) (pss_one
      (ps_ret pe_bl)) pss_nil)))
      (pss_one
      (ps_ret pe_bl)))), ?_⟩
    refine ⟨_, rfl, _, _, _, _, true, rfl, .ty "tuple", .base (.tup ht), kit_ty (by decide +kernel), true, rfl, ?_⟩
    refine ⟨_, rfl, a, rfl, ⟨_, .of ht⟩, for_tup (K := K) (a := a) (xs := xs.map V.int) (fun i σ H' => ∃ v : Option V, σ = [some (.ref a), some (.int lo), some (.int hi), v] ∧ H' = H) ⟨none, rfl, rfl⟩ (fun i σ H' _ ⟨_, _, e⟩ => by rw [e]; exact .of ht) ?_ ?_⟩
    · rintro i y σ H' hi ⟨v, rfl, rfl⟩
      obtain ⟨z, hz, rfl⟩ : ∃ z, xs[i]? = some z ∧ y = V.int z := by
        rw [List.getElem?_map] at hi
        cases e : xs[i]? with
        | none => rw [e] at hi; cases hi
        | some z => rw [e] at hi; exact ⟨z, rfl, (Option.some.inj hi).symm⟩
      obtain ⟨c1, c2⟩ := hx z (List.mem_of_getElem? hz)
      refine ⟨_, rfl, z, rfl, true, rfl, ?_⟩
      refine ⟨_, rfl, _, rfl, _, _, rfl, rfl, _, rfl, ite_lt (fun c => absurd c1 (by omega)) (fun _ => ?_)⟩
      refine ⟨_, rfl, _, rfl, _, _, rfl, rfl, _, rfl, ?_⟩
      refine ite2 (fun c => absurd (of_decide_eq_true c) (by omega)) (fun _ => ?_)
      exact ⟨_, rfl, rfl⟩
    · rintro σ H' ⟨v, rfl, rfl⟩
      exact q
theorem cal_normal (T : Txt K mg) : C8.Cal P w K mg base 1 "_law_normal" spNormal [] := by
  obtain ⟨f, fd, F, hm, hb⟩ := T.h_law_normal
  refine ⟨f, fd, _, [], F.ok sc_law_normal (fun vs H Q E h => ?_) (fun cdv A outer s H vs Q E hr h => ?_), hm, F.kp, hb, .nil⟩
  · obtain ⟨p, h, l, rfl, _⟩ := h
    rfl
  · obtain ⟨p, h, l, rfl, ⟨a, b, e1, e2, e3⟩, N, hll, q⟩ := h
    have i0 : ∀ a b : V, atI [a, b] 0 = some a := fun _ _ => rfl
    have i1 : ∀ a b : V, atI [a, b] 1 = some b := fun _ _ => rfl
    have hn := N.pos
    refine ⟨_, (pss_cons
      (ps_set (i := 1) sc_law_normal.nd rfl (Or.inl rfl) (pe_ix (ix_tupK (K := K) rfl) (pv 0) pe_int (fun _ _ => rfl)))
      (pss_cons
      (ps_set (i := 2) sc_law_normal.nd rfl (Or.inl rfl) (pe_ix (ix_tupK (K := K) rfl) (pv 0) pe_int (fun _ _ => rfl)))
      (C8.pss_cut
      (ps_if (PW.pt (pw_and (pt_cmpR op_gt (pe_callB (call_lenK (K := K) rfl) (by rfl) T.z_len PySem.boot_len (pa_cons (pv 1) pa_nil)) pe_int (nomark _)) (pw_and1 (pt_cmpR op_eq (pe_ix (ix_tupK (K := K) rfl) (pv 1) (pe_un un_neg pe_int) (fun _ _ => rfl)) (pe_ix (ix_tupK (K := K) rfl) (pv 2) (pe_un un_neg pe_int) (fun _ _ => rfl)) (nomark _))))) (pss_one
      (ps_ret pe_bl)) pss_nil)
      (pss_cons
      (ps_for PassesOwn.never rfl (pi_range2 (by rfl) T.z_range (pa_cons pe_int (pa_cons (pe_callB (call_lenK (K := K) rfl) (by rfl) T.z_len PySem.boot_len (pa_cons (pv 2) pa_nil)) pa_nil))) (pg_name (i := 3) sc_law_normal.nd rfl (.inl rfl)) (pss_one
      (ps_if (PW.pt (pw_and (pt_cmpR op_eq (pe_op op_mod (pe_callB (call_lenK (K := K) rfl) (by rfl) T.z_len PySem.boot_len (pa_cons (pv 2) pa_nil)) (pv 3)) pe_int (nomark _)) (pw_and1 (pt_cmpR (op_eqDK (K := K) rfl hr.units) (pv 2) (pe_op (op_repTK (K := K) rfl) (pe_slice (sl_tupK (K := K) rfl) (pv 2) po_none (po_some (pv 3))) (pe_op op_fdiv (pe_callB (call_lenK (K := K) rfl) (by rfl) T.z_len PySem.boot_len (pa_cons (pv 2) pa_nil)) (pv 3))) (nomark _))))) (pss_one
      (ps_ret pe_bl)) pss_nil)))
      (pss_one
      (ps_ret pe_bl)))))), ?_⟩
    refine ⟨_, rfl, p, _, _, _, rfl, rfl, .of e1, i0 _ _, ?_⟩
    refine ⟨_, rfl, p, _, _, _, rfl, rfl, .of e1, i1 _ _, ?_⟩
    -- if len(head) > 0 and head[-1] == loop[-1]
    refine ⟨fun σ H' => σ = [some (.ref p), some (.ref a), some (.ref b), none] ∧ H = H', ?_, ?_⟩
    · refine ⟨_, rfl, a, _, rfl, .inr (.of e2), _, _, rfl, rfl, _, rfl, ?_⟩
      refine ite_lt (fun c => ?_) (fun c => ⟨rfl, rfl⟩)
      rw [List.length_map] at c
      have hne : h ≠ [] := List.length_pos_iff.mp (by omega)
      have g1 : atI (h.map V.int) (-1) = some (.int (lw h (h.length - 1))) := at_last hne
      have g2 : atI (l.map V.int) (-1) = some (.int (lw l (l.length - 1))) := at_last N.ne
      refine ⟨_, rfl, _, rfl, a, _, _, _, rfl, rfl, .of e2, g1, _, rfl, _, rfl, b, _, _, _, rfl, rfl, .of e3, g2, rfl, _, rfl, ite_eq (fun c2 => ?_) (fun _ => ⟨rfl, rfl⟩)⟩
      refine absurd ?_ (N.last hne)
      rw [last_at hne, last_at N.ne, c2]
    · rintro σ H' ⟨rfl, rfl⟩
      refine ⟨_, rfl, b, _, rfl, .inr (.of e3), _, _, rfl, (by rw [List.length_map]; omega), for_range (lo := 1) (n := ((((l.map V.int).length : Nat) : Int) - 1).toNat)
        (fun i σ H' => ∃ v : Option V, σ = [some (.ref p), some (.ref a), some (.ref b), v] ∧ Same H H') ⟨none, rfl, Same.refl H⟩ ?_ ?_⟩
      · rintro i σ H1 hi ⟨v, rfl, s1⟩
        rw [List.length_map] at hi
        have hp : 0 < 1 + i := by omega
        have hpl : 1 + i < l.length := by omega
        have ei : (1 : Int) + (i : Int) = ((1 + i : Nat) : Int) := by omega
        have t3 : TupI H1 b l := s1 _ _ e3
        refine ⟨_, rfl, b, _, rfl, .inr (.of t3), _, rfl, _, _, rfl, rfl, (show (0 : Int) < 1 + (i : Int) by omega), rfl, _, rfl, ?_⟩
        have em : (((l.map V.int).length : Nat) : Int) % ((1 : Int) + (i : Int)) = ((l.length % (1 + i) : Nat) : Int) := by
          rw [ei, List.length_map]
          rfl
        refine ite_eq (fun c => ?_) (fun c => ⟨_, rfl, s1⟩)
        rw [em] at c
        have hd : (1 + i) ∣ l.length := Nat.dvd_of_mod_eq_zero (by omega)
        obtain ⟨k, hk⟩ := hd
        have hk2 : 2 ≤ k := by
          rcases Nat.lt_or_ge k 2 with z | z
          · have : k = 0 ∨ k = 1 := by omega
            rcases this with y | y
            · rw [y] at hk; omega
            · rw [y] at hk; omega
          · exact z
        have hkl : k ≤ l.length := by
          rw [hk]
          exact Nat.le_mul_of_pos_left k hp
        have ek : (((l.map V.int).length : Nat) : Int) / ((1 : Int) + (i : Int)) = (k : Int) := by
          rw [ei, List.length_map, hk, Int.natCast_mul]
          exact Int.mul_ediv_cancel_left _ (by omega)
        -- loop == loop[:period] * (len(loop) // period)
        refine ⟨_, rfl, _, rfl, _, rfl, _, rfl, ?_⟩
        refine slt_to t3 ei fun H2 p2 s2 t4 => ?_
        have t32 : TupI H2 b l := s2 _ _ t3
        refine ⟨_, rfl, b, _, rfl, .inr (.of t32), _, rfl, _, _, rfl, rfl, ⟨(show (0 : Int) < 1 + (i : Int) by omega), (show 1 + (i : Int) < 1073741824 by omega)⟩, ?_⟩
        refine ⟨p2, k, (l.take (1 + i)).map V.int, rfl, congrArg V.int ek, .of t4, fun z => ?_, by omega, by omega, by rw [List.length_map, List.length_take]; omega, fun p3 hp3 => ?_⟩
        · have := congrArg List.length z
          rw [List.length_map, List.length_take] at this
          have h0 : min (1 + i) l.length = 0 := this
          omega
        have s3 : Same H2 (upd H2 p3 (.tup (List.replicate ((k : Int)).toNat ((l.take (1 + i)).map V.int)).flatten)) := same_new hp3
        have ef : (List.replicate ((k : Int)).toNat ((l.take (1 + i)).map V.int)).flatten = ((List.replicate k (l.take (1 + i))).flatten).map V.int := by
          rw [List.map_flatten, List.map_replicate]
          rfl
        have t5 : TupI (upd H2 p3 (.tup (List.replicate ((k : Int)).toNat ((l.take (1 + i)).map V.int)).flatten)) p3 (List.replicate k (l.take (1 + i))).flatten := by
          unfold TupI
          rw [upd_same, ef]
        have t33 : TupI (upd H2 p3 (.tup (List.replicate ((k : Int)).toNat ((l.take (1 + i)).map V.int)).flatten)) b l := s3 _ _ t32
        refine ⟨_, _, dp_tup t33, dp_tup t5, shaped_tup _, shaped_tup _, ?_⟩
        rw [eqv_tup]
        refine ⟨_, rfl, ?_⟩
        refine ite2 (fun c => ?_) (fun _ => ⟨_, rfl, s1.trans (s2.trans s3)⟩)
        exfalso
        obtain ⟨j, hj, hne⟩ := N.prim (1 + i) hp hpl ⟨k, hk⟩
        exact hne (flat_per hp (by omega) (of_decide_eq_true c) (by rw [hk, Nat.mul_comm]) j hj)
      · rintro σ H1 ⟨v, rfl, s1⟩
        exact q H1 s1
theorem cal_islasso (T : Txt K mg) : C8.Cal P w K mg base 3 "_law_is_lasso" spIsLasso [] := by
  have C_law_integers : C8.Cal P w K mg base 2 "_law_integers" spInts [] := cal_ints T
  have C_law_normal : C8.Cal P w K mg base 1 "_law_normal" spNormal [] := cal_normal T
  obtain ⟨f, fd, F, hm, hb⟩ := T.h_law_is_lasso
  refine ⟨f, fd, _, [], F.ok sc_law_is_lasso (fun vs H Q E h => ?_) (fun cdv A outer s H vs Q E hr h => ?_), hm, F.kp, hb, .nil⟩
  · obtain ⟨p, h, l, n, rfl, _⟩ := h
    rfl
  · obtain ⟨p, h, l, n, rfl, L, N, hll, hh, hl, q⟩ := h
    obtain ⟨a, b, e1, e2, e3⟩ := id L
    have i0 : ∀ a b : V, atI [a, b] 0 = some a := fun _ _ => rfl
    have i1 : ∀ a b : V, atI [a, b] 1 = some b := fun _ _ => rfl
    have hn := N.pos
    refine ⟨_, (pss_cons
      (ps_if (PW.pt (pw_or (pt_not (pt_val (pe_callB (call_isiK' (K := K) rfl) (by rfl) T.z_isinstance (by decide +kernel) (pa_cons (pv 0) (pa_cons (pe_bltn (v := .ty "tuple") (by rfl) T.z_tuple (by decide +kernel) rfl) pa_nil))))) (pw_or1 (pt_cmpR op_ne (pe_callB (call_lenK (K := K) rfl) (by rfl) T.z_len PySem.boot_len (pa_cons (pv 0) pa_nil)) pe_int (nomark _))))) (pss_one
      (ps_ret pe_bl)) pss_nil)
      (pss_cons
      (ps_if (PW.pt (pw_or (pt_not (pt_val (C8.pe_c C_law_integers hr (by decide) (by rfl) (pa_cons (pe_ix (ix_tupK (K := K) rfl) (pv 0) pe_int (fun _ _ => rfl)) (pa_cons pe_int (pa_cons (pv 1) pa_nil)))))) (pw_or1 (pt_not (pt_val (C8.pe_c C_law_integers hr (by decide) (by rfl) (pa_cons (pe_ix (ix_tupK (K := K) rfl) (pv 0) pe_int (fun _ _ => rfl)) (pa_cons pe_int (pa_cons (pv 1) pa_nil))))))))) (pss_one
      (ps_ret pe_bl)) pss_nil)
      (pss_one
      (ps_ret (pe_and (pe_cmpR op_gt (pe_callB (call_lenK (K := K) rfl) (by rfl) T.z_len PySem.boot_len (pa_cons (pe_ix (ix_tupK (K := K) rfl) (pv 0) pe_int (fun _ _ => rfl)) pa_nil)) pe_int (nomark _)) (pe_one (C8.pe_c C_law_normal hr (by decide) (by rfl) (pa_cons (pv 0) pa_nil)))))))), ?_⟩
    refine ⟨_, rfl, _, _, _, _, true, rfl, .ty "tuple", .base (.tup e1), kit_ty (by decide +kernel), true, rfl, ?_⟩
    refine ⟨_, rfl, p, _, rfl, .inr (.of e1), rfl, _, rfl, ?_⟩
    refine ⟨_, rfl, p, _, _, _, rfl, rfl, .of e1, i0 _ _, _, rfl, a, h, 0, n, rfl, e2, hh, true, rfl, ?_⟩
    refine ⟨_, rfl, p, _, _, _, rfl, rfl, .of e1, i1 _ _, _, rfl, b, l, 0, n, rfl, e3, hl, true, rfl, ?_⟩
    refine ⟨_, rfl, p, _, _, _, rfl, rfl, .of e1, i1 _ _, b, _, rfl, .inr (.of e3), _, _, rfl, rfl, _, rfl, ?_⟩
    refine ite_lt (fun _ => ?_) (fun c => ?_)
    · exact ⟨_, rfl, p, h, l, rfl, L, N, hll, q⟩
    · rw [List.length_map] at c
      omega
theorem cal_same (T : Txt K mg) : C8.Cal P w K mg base 2 "_law_same" spSame [] := by
  have C_law_at : C8.Cal P w K mg base 1 "_law_at" spAt [] := cal_at T
  obtain ⟨f, fd, F, hm, hb⟩ := T.h_law_same
  refine ⟨f, fd, _, [], F.ok sc_law_same (fun vs H Q E h => ?_) (fun cdv A outer s H vs Q E hr h => ?_), hm, F.kp, hb, .nil⟩
  · obtain ⟨p, q, h1, l1, h2, l2, rfl, _⟩ := h
    rfl
  · obtain ⟨p, q, h1, l1, h2, l2, rfl, L1, L2, n1, n2, hbd, hw, k⟩ := h
    obtain ⟨a, b, e1, e2, e3⟩ := id L1
    obtain ⟨a', b', e1', e2', e3'⟩ := id L2
    have i0 : ∀ a b : V, atI [a, b] 0 = some a := fun _ _ => rfl
    have i1 : ∀ a b : V, atI [a, b] 1 = some b := fun _ _ => rfl
    refine ⟨_, (pss_cons
      (ps_set (i := 2) sc_law_same.nd rfl (Or.inl rfl) (pe_op op_add (pe_op op_add (pe_callB (call_max2 rfl) (by rfl) T.z_max (by decide +kernel) (pa_cons (pe_callB (call_lenK (K := K) rfl) (by rfl) T.z_len PySem.boot_len (pa_cons (pe_ix (ix_tupK (K := K) rfl) (pv 0) pe_int (fun _ _ => rfl)) pa_nil)) (pa_cons (pe_callB (call_lenK (K := K) rfl) (by rfl) T.z_len PySem.boot_len (pa_cons (pe_ix (ix_tupK (K := K) rfl) (pv 1) pe_int (fun _ _ => rfl)) pa_nil)) pa_nil))) (pe_callB (call_lenK (K := K) rfl) (by rfl) T.z_len PySem.boot_len (pa_cons (pe_ix (ix_tupK (K := K) rfl) (pv 0) pe_int (fun _ _ => rfl)) pa_nil))) (pe_callB (call_lenK (K := K) rfl) (by rfl) T.z_len PySem.boot_len (pa_cons (pe_ix (ix_tupK (K := K) rfl) (pv 1) pe_int (fun _ _ => rfl)) pa_nil))))
      (pss_cons
      (ps_for PassesOwn.never rfl (pi_range1 (by rfl) T.z_range (pa_cons (pv 2) pa_nil)) (pg_name (i := 3) sc_law_same.nd rfl (.inl rfl)) (pss_one
      (ps_if (pt_cmpR op_ne (C8.pe_c C_law_at hr (by decide) (by rfl) (pa_cons (pv 0) (pa_cons (pv 3) pa_nil))) (C8.pe_c C_law_at hr (by decide) (by rfl) (pa_cons (pv 1) (pa_cons (pv 3) pa_nil))) (nomark _)) (pss_one
      (ps_ret pe_bl)) pss_nil)))
      (pss_one
      (ps_ret pe_bl)))), ?_⟩
    refine ⟨_, rfl, p, _, _, _, rfl, rfl, .of e1, i0 _ _, a, _, rfl, e2.sq, ?_⟩
    refine ⟨_, rfl, q, _, _, _, rfl, rfl, .of e1', i0 _ _, a', _, rfl, e2'.sq, ?_⟩
    refine ⟨_, _, rfl, ?_⟩
    refine ⟨_, rfl, p, _, _, _, rfl, rfl, .of e1, i1 _ _, b, _, rfl, e3.sq, ?_⟩
    refine ⟨_, _, rfl, rfl, ?_⟩
    refine ⟨_, rfl, q, _, _, _, rfl, rfl, .of e1', i1 _ _, b', _, rfl, e3'.sq, ?_⟩
    refine ⟨_, _, rfl, rfl, ?_⟩
    dsimp only
    rw [List.length_map, List.length_map, List.length_map, List.length_map, max_if, ← Int.natCast_add, ← Int.natCast_add]
    show tSeq _ _ _ [some (V.ref p), some (V.ref q), some (V.int ((dfn h1 l1 h2 l2 : Nat) : Int)), none] H
    generalize hd : dfn h1 l1 h2 l2 = n at *
    refine ⟨_, rfl, _, rfl, by omega, by omega, for_range (lo := 0) (n := ((n : Int)).toNat) (fun i σ H3 => ∃ v : Option V, σ = [some (.ref p), some (.ref q), some (.int (n : Int)), v] ∧ H = H3)
      ⟨none, rfl, rfl⟩ ?_ ?_⟩
    · rintro i σ H3 hi ⟨v, rfl, rfl⟩
      refine ⟨_, rfl, _, rfl, p, h1, l1, i, by rw [Int.zero_add]; rfl, L1, n1, ?_⟩
      refine ⟨_, rfl, _, rfl, q, h2, l2, i, by rw [Int.zero_add]; rfl, L2, n2, ?_⟩
      exact ⟨rfl, _, rfl, ite_ne (fun z => absurd (hw i) z) (fun _ => ⟨_, rfl, rfl⟩)⟩
    · rintro σ H3 ⟨v, rfl, rfl⟩
      exact k
theorem cal_letter (T : Txt K mg) : C8.Cal P w K mg base 1 "letter_at" spAt [] := by
  obtain ⟨f, fd, F, hm, hb⟩ := T.h_letter_at
  refine ⟨f, fd, _, [], F.ok sc_letter_at (fun vs H Q E h => ?_) (fun cdv A outer s H vs Q E hr h => ?_), hm, F.kp, hb, .nil⟩
  · obtain ⟨p, h, l, t, rfl, _⟩ := h
    rfl
  · obtain ⟨p, h, l, t, rfl, ⟨a, b, e1, e2, e3⟩, hn, q⟩ := h
    have hl : 0 < l.length := List.length_pos_iff.mpr hn
    refine ⟨_, (pss_cons
      (ps_if (pt_cmpR op_lt (pv 1) pe_int (nomark _)) (pss_one
      ps_never) pss_nil)
      (pss_cons
      (ps_asg (pv 0) (pg_tup (by rfl) (pgs_cons (pg_name (i := 2) sc_letter_at.nd rfl (.inl rfl)) (pgs_cons (pg_name (i := 3) sc_letter_at.nd rfl (.inl rfl)) pgs_nil))))
      (pss_cons
      (ps_if (pt_cmpR op_lt (pv 1) (pe_callB (call_lenK (K := K) rfl) (by rfl) T.z_len PySem.boot_len (pa_cons (pv 2) pa_nil)) (nomark _)) (pss_one
      (ps_ret (pe_ix (ix_seqK (K := K) rfl) (pv 2) (pv 1) (fun _ _ => rfl)))) pss_nil)
      (pss_one
      (ps_ret (pe_ix (ix_seqK (K := K) rfl) (pv 3) (pe_op op_mod (pe_op op_sub (pv 1) (pe_callB (call_lenK (K := K) rfl) (by rfl) T.z_len PySem.boot_len (pa_cons (pv 2) pa_nil))) (pe_callB (call_lenK (K := K) rfl) (by rfl) T.z_len PySem.boot_len (pa_cons (pv 3) pa_nil))) (fun _ _ => rfl))))))), ?_⟩
    walk_at "bx"
    refine ⟨p, _, rfl, .of e1, rfl, _, _, rfl, _, _, rfl, rfl, ?_⟩
    walk_at "bx"
    refine ite2 (fun e => ?_) (fun e => ?_)
    · have e0 : t < h.length := by
        have := of_decide_eq_true e
        rw [List.length_map] at this
        omega
      exact ⟨_, rfl, _, rfl, ixq e2 rfl (wat_head e0) q⟩
    · have e0 : ¬ t < h.length := fun z => e (decide_eq_true (by rw [List.length_map]; omega))
      walk_at "bx"
      refine ⟨(show (0 : Int) < _ by rw [List.length_map]; omega), ?_⟩
      exact ixq e3 (by rw [List.length_map, List.length_map]; exact ix_mod (Nat.le_of_not_lt e0)) (wat_loop e0 hn) q
def jw (h1 l1 h2 l2 : List Int) (s : Int) (t : Nat) : Int := wat h1 l1 t + s * wat h2 l2 t
def spComb : Sp := fun vs H Q _ => ∃ (p q : Addr) (h1 l1 h2 l2 : List Int) (s : Int), vs = [.ref p, .ref q, .int s] ∧ Las H p h1 l1 ∧ Las H q h2 l2 ∧ l1 ≠ [] ∧ l2 ≠ [] ∧ h1.length ≤ 450 ∧ l1.length ≤ 450 ∧ h2.length ≤ 1830 ∧ l2.length ≤ 1830 ∧ (∀ t, 0 ≤ wat h2 l2 t ∧ wat h2 l2 t < 1000) ∧
  ∀ (H' : Hp) (p' : Addr) (h' l' : List Int), Same H H' → Las H' p' h' l' → Nrm h' l' → (∀ t, wat h' l' t = jw h1 l1 h2 l2 s t) → h'.length ≤ 900000 → l'.length ≤ 900000 → (∀ x, x ∈ h' ∨ x ∈ l' → ∃ t, x = jw h1 l1 h2 l2 s t) → Q (.ref p') H'
def spJoint : Sp := fun vs H Q _ => ∃ (p q : Addr) (h1 l1 h2 l2 : List Int) (s : Int), vs = [.ref p, .ref q, .int s] ∧ Las H p h1 l1 ∧ Las H q h2 l2 ∧ l1 ≠ [] ∧ l2 ≠ [] ∧ h1.length ≤ 60 ∧ l1.length ≤ 60 ∧ h2.length ≤ 60 ∧ l2.length ≤ 60 ∧ (∀ t, 0 ≤ wat h2 l2 t ∧ wat h2 l2 t < 1000) ∧
  ∀ (H' : Hp) (p' : Addr) (h' l' : List Int), Same H H' → Las H' p' h' l' → l' ≠ [] → (∀ t, wat h' l' t = jw h1 l1 h2 l2 s t) → h'.length ≤ 5000 → l'.length ≤ 5000 → Q (.ref p') H'
/-- cutting the first letters of a word with two periods -/
theorem jw_cut {h1 l1 h2 l2 : List Int} {s : Int} {b m : Nat} (n1 : l1 ≠ []) (n2 : l2 ≠ []) (hb1 : h1.length ≤ b) (hb2 : h2.length ≤ b) (hm : 0 < m) (d1 : l1.length ∣ m) (d2 : l2.length ∣ m) (t : Nat) :
    wat (((List.range (b + m)).map (jw h1 l1 h2 l2 s)).take b) (((List.range (b + m)).map (jw h1 l1 h2 l2 s)).drop b) t = jw h1 l1 h2 l2 s t := by
  have e1 : (((List.range (b + m)).map (jw h1 l1 h2 l2 s)).take b).length = b := by
    rw [List.length_take, List.length_map, List.length_range]
    omega
  have e2 : (((List.range (b + m)).map (jw h1 l1 h2 l2 s)).drop b).length = m := by
    rw [List.length_drop, List.length_map, List.length_range]
    omega
  have gd : ∀ j, j < b + m → ((List.range (b + m)).map (jw h1 l1 h2 l2 s)).getD j 0 = jw h1 l1 h2 l2 s j := fun j hj => range_getD hj
  rw [show wat (((List.range (b + m)).map (jw h1 l1 h2 l2 s)).take b) (((List.range (b + m)).map (jw h1 l1 h2 l2 s)).drop b) t = if t < (((List.range (b + m)).map (jw h1 l1 h2 l2 s)).take b).length then (((List.range (b + m)).map (jw h1 l1 h2 l2 s)).take b).getD t 0 else (((List.range (b + m)).map (jw h1 l1 h2 l2 s)).drop b).getD ((t - (((List.range (b + m)).map (jw h1 l1 h2 l2 s)).take b).length) % (((List.range (b + m)).map (jw h1 l1 h2 l2 s)).drop b).length) 0 from rfl]
  rw [e1, e2]
  by_cases c : t < b
  · rw [if_pos c, List.getD_eq_getElem?_getD, List.getElem?_take, if_pos c, ← List.getD_eq_getElem?_getD, gd t (by omega)]
  · have hk := Nat.mod_lt (t - b) hm
    rw [if_neg c, List.getD_eq_getElem?_getD, List.getElem?_drop, ← List.getD_eq_getElem?_getD, gd _ (by omega)]
    have per : ∀ {h l : List Int}, h.length ≤ b → l.length ∣ m → wat h l (b + (t - b) % m) = wat h l t := fun {h l} hb d => by
      rw [wat_cyc (by omega), wat_cyc (by omega)]
      show lw l (_ % _) = lw l (_ % _)
      congr 1
      have x1 : b + (t - b) % m - h.length = (b - h.length) + (t - b) % m := by omega
      have x2 : t - h.length = (b - h.length) + (t - b) := by omega
      rw [x1, x2, ← Nat.add_mod_mod, Nat.mod_mod_of_dvd _ d, Nat.add_mod_mod]
    unfold jw
    rw [per hb1 d1, per hb2 d2]
/-- a built-in that the module has under a name of its own -/
theorem pe_callG {X : Cx} {id : String} {r : List V → Hp → VK → Prop} {x : Str} {p pos : Pos} {e : Expr} {es : List Expr} {t : TA} (hc : CallR X (.builtin id) r) (hg : Gl X x) (hm : X.mg x = some (.builtin id)) (ha : PA X (e :: es) t) (hdb : (x == ("__debug__" : Str)) = false := by decide)
    (he : starEach (e :: es) X.env = (false, eval e X.env) :: starEach es X.env := by rfl) (hpl : (backTo pos (starEach es X.env)).any (·.1) = false := by rfl) : PE X (.Call (.Name x p) (e :: es) [] pos) (tCB r t) := by
  refine ⟨fun pins s σ H Q I hw => ?_⟩
  refine wpAny_Call_Name_kw (ld_glob I hg hm ?_ hdb)
  exact PyProof.Rows.callWith_builtin1 (thn (ha.run pos pins s σ H _ I hw) fun us u ⟨vs, G, J, rv, qv⟩ => hc pins u σ G vs us Q J rv qv) he hpl
/-- lcm(n, m) of small numbers -/
theorem call_lcm {X : Cx} : CallR X (.builtin "math.lcm") (fun xs H Q => ∃ n m : Nat, xs = [.int n, .int m] ∧ 0 < n ∧ 0 < m ∧ n ≤ 1000000 ∧ m ≤ 1000000 ∧ Q (.int ((Nat.lcm n m : Nat) : Int)) H) := by
  intro pins s σ H xs us Q I r hw
  obtain ⟨n, m, rfl, hn, hm, hn1, hm1, q⟩ := hw
  obtain ⟨u1, u2, rfl, r1, r2⟩ := vals2 r
  obtain ⟨t1, rfl⟩ := r1
  obtain ⟨t2, rfl⟩ := r2
  have hl : Nat.lcm n m ≤ 1000000 * 1000000 := Nat.le_trans (Nat.le_of_dvd (Nat.mul_pos hn hm) (Nat.lcm_dvd (Nat.dvd_mul_right n m) (Nat.dvd_mul_left m n))) (Nat.mul_le_mul hn1 hm1)
  refine PySem.W.mg_lcm_v (c := ((Nat.lcm n m : Nat) : Int)) ?_ ?_ ?_ ?_ ⟨.int _, H, I.tok _, ⟨_, rfl⟩, q⟩
  · rw [Int.natAbs_natCast]; omega
  · rw [Int.natAbs_natCast]; omega
  · rw [Int.natAbs_natCast, Int.natAbs_natCast, Nat.lcm_comm 1 n, Nat.lcm_one_right]
  · rw [Int.natAbs_natCast]
    refine Nat.lt_of_le_of_lt (m := 63) ?_ (by decide)
    by_cases z : Nat.lcm n m = 0
    · rw [z]; decide
    · exact Nat.le_of_lt_succ ((Nat.log2_lt z).mpr (Nat.lt_of_le_of_lt hl (by decide)))
theorem cal_combine (T : Txt K mg) (gM : mg "lcm" = some (.builtin "math.lcm")) : C8.Cal P w K mg base 3 "combine" spComb [] := by
  have C_shortest_lasso : C8.Cal P w K mg base 2 "shortest_lasso" spShort [] := cal_short T
  have C_letter_at : C8.Cal P w K mg base 1 "letter_at" spAt [] := cal_letter T
  obtain ⟨f, fd, F, hm, hb⟩ := T.h_combine
  refine ⟨f, fd, _, [], F.ok sc_combine (fun vs H Q E h => ?_) (fun cdv A outer s H vs Q E hr h => ?_), hm, F.kp, hb, .nil⟩
  · obtain ⟨p, q, h1, l1, h2, l2, z, rfl, _⟩ := h
    rfl
  · obtain ⟨p, q, h1, l1, h2, l2, z, rfl, L1, L2, n1, n2, b1, b2, b3, b4, bw, k⟩ := h
    have i0 : ∀ a b : V, atI [a, b] 0 = some a := fun _ _ => rfl
    have i1 : ∀ a b : V, atI [a, b] 1 = some b := fun _ _ => rfl
    obtain ⟨a, b, e1, e2, e3⟩ := id L1
    refine ⟨_, (pss_cons
      (ps_set (i := 3) sc_combine.nd rfl (Or.inr rfl) (C8.pe_c C_shortest_lasso hr (by decide) (by rfl) (pa_cons (pe_ix (ix_tupK (K := K) rfl) (pv 0) pe_int (fun _ _ => rfl)) (pa_cons (pe_ix (ix_tupK (K := K) rfl) (pv 0) pe_int (fun _ _ => rfl)) pa_nil))))
      (pss_cons
      (ps_set (i := 4) sc_combine.nd rfl (Or.inr rfl) (C8.pe_c C_shortest_lasso hr (by decide) (by rfl) (pa_cons (pe_ix (ix_tupK (K := K) rfl) (pv 1) pe_int (fun _ _ => rfl)) (pa_cons (pe_ix (ix_tupK (K := K) rfl) (pv 1) pe_int (fun _ _ => rfl)) pa_nil))))
      (pss_cons
      (ps_set (i := 5) sc_combine.nd rfl (Or.inl rfl) (pe_callB (call_max2 rfl) (by rfl) T.z_max (by decide +kernel) (pa_cons (pe_callB (call_lenK (K := K) rfl) (by rfl) T.z_len PySem.boot_len (pa_cons (pe_ix (ix_tupK (K := K) rfl) (pv 3) pe_int (fun _ _ => rfl)) pa_nil)) (pa_cons (pe_callB (call_lenK (K := K) rfl) (by rfl) T.z_len PySem.boot_len (pa_cons (pe_ix (ix_tupK (K := K) rfl) (pv 4) pe_int (fun _ _ => rfl)) pa_nil)) pa_nil))))
      (pss_cons
      (ps_set (i := 6) sc_combine.nd rfl (Or.inl rfl) (pe_op op_add (pv 5) (pe_callG call_lcm (by rfl) gM (pa_cons (pe_callB (call_lenK (K := K) rfl) (by rfl) T.z_len PySem.boot_len (pa_cons (pe_ix (ix_tupK (K := K) rfl) (pv 3) pe_int (fun _ _ => rfl)) pa_nil)) (pa_cons (pe_callB (call_lenK (K := K) rfl) (by rfl) T.z_len PySem.boot_len (pa_cons (pe_ix (ix_tupK (K := K) rfl) (pv 4) pe_int (fun _ _ => rfl)) pa_nil)) pa_nil)))))
      (pss_cons
      (ps_setLc (i := 7) (own := [("turn", 8)]) (g := gName 8) (tt := tYes) rfl sc_combine.nd rfl rfl (sw_true rfl rfl rfl (by decide +kernel)) (pi_range1 (by rfl) T.z_range (pa_cons (pv 6) pa_nil)) (blkOk_by (N := N_combine) (sc := defScope s_combine) (by decide +kernel)) (fun _ _ _ _ _ => (pg_name (i := 8) sc_combine.nd rfl (Or.inl rfl))) (fun _ _ _ _ _ => pts_nil) (fun _ _ _ _ _ => (pe_op op_add (C8.pe_c C_letter_at hr (by decide) (by rfl) (pa_cons (pv 3) (pa_cons (pv 8) pa_nil))) (pe_op op_mul (pv 2) (C8.pe_c C_letter_at hr (by decide) (by rfl) (pa_cons (pv 4) (pa_cons (pv 8) pa_nil)))))))
      (pss_one
      (ps_ret (C8.pe_c C_shortest_lasso hr (by decide) (by rfl) (pa_cons (pe_slice (sl_listK (K := K) rfl) (pv 7) po_none (po_some (pv 5))) (pa_cons (pe_slice (sl_listK (K := K) rfl) (pv 7) (po_some (pv 5)) po_none) pa_nil)))))))))), ?_⟩
    refine ⟨_, rfl, p, _, _, _, rfl, rfl, .of e1, i0 _ _, _, rfl, p, _, _, _, rfl, rfl, .of e1, i1 _ _, a, b, h1, l1, rfl, .inr e2, .inr e3, n1, by omega, by omega, fun H1 p1 g1 m1 s1 La Sa => ?_⟩
    obtain ⟨a', b', e1', e2', e3'⟩ := L2.same s1
    refine ⟨_, rfl, q, _, _, _, rfl, rfl, .of e1', i0 _ _, _, rfl, q, _, _, _, rfl, rfl, .of e1', i1 _ _, a', b', h2, l2, rfl, .inr e2', .inr e3', n2, by omega, by omega, fun H2 p2 g2 m2 s2 Lb Sb => ?_⟩
    have La2 := La.same s2
    obtain ⟨x1, y1, u1, u2, u3⟩ := id La2
    obtain ⟨x2, y2, v1, v2, v3⟩ := id Lb
    have pm1 : 0 < m1.length := List.length_pos_iff.mpr Sa.ne
    have pm2 : 0 < m2.length := List.length_pos_iff.mpr Sb.ne
    have c1 := Sa.hl
    have c2 := Sa.ll
    have c3 := Sb.hl
    have c4 := Sb.ll
    -- start
    refine ⟨_, rfl, p1, _, _, _, rfl, rfl, .of u1, i0 _ _, x1, _, rfl, .inr (.of u2), _, rfl, p2, _, _, _, rfl, rfl, .of v1, i0 _ _, x2, _, rfl, .inr (.of v2), _, _, rfl, ?_⟩
    -- turns
    refine ⟨_, rfl, _, rfl, p1, _, _, _, rfl, rfl, .of u1, i1 _ _, y1, _, rfl, .inr (.of u3), _, rfl, p2, _, _, _, rfl, rfl, .of v1, i1 _ _, y2, _, rfl, .inr (.of v3), m1.length, m2.length, by rw [List.length_map, List.length_map], pm1, pm2, by omega, by omega, _, _, rfl, rfl, ?_⟩
    have hM : 0 < Nat.lcm m1.length m2.length := Nat.lcm_pos pm1 pm2
    have hM2 : Nat.lcm m1.length m2.length ≤ 450 * 1830 := Nat.le_trans (Nat.le_of_dvd (Nat.mul_pos pm1 pm2) (Nat.lcm_dvd (Nat.dvd_mul_right _ _) (Nat.dvd_mul_left _ _))) (Nat.mul_le_mul (by omega) (by omega))
    have eM : (if (((g2.map V.int).length : Nat) : Int) > (((g1.map V.int).length : Nat) : Int) then (((g2.map V.int).length : Nat) : Int) else (((g1.map V.int).length : Nat) : Int)) = ((max g1.length g2.length : Nat) : Int) := by
      rw [List.length_map, List.length_map, max_if]
    dsimp only
    rw [eM, ← Int.natCast_add]
    generalize hst : max g1.length g2.length = st
    have hs1 : g1.length ≤ st := by omega
    have hs2 : g2.length ≤ st := by omega
    have hs3 : st ≤ 1830 := by omega
    generalize hMm : Nat.lcm m1.length m2.length = M at *
    have d1 : m1.length ∣ M := by rw [← hMm]; exact Nat.dvd_lcm_left _ _
    have d2 : m2.length ∣ M := by rw [← hMm]; exact Nat.dvd_lcm_right _ _
    refine ⟨_, rfl, _, rfl, by omega, by omega, fun D hD => ?_⟩
    refine lc_range (lo := 0) (n := ((st + M : Nat) : Int).toNat) (fun i H' => Same H2 H' ∧ H' D = some (.lst (((List.range i).map (jw g1 m1 g2 m2 z)).map V.int)))
      ⟨same_new hD, upd_same⟩ ?_ ?_
    · rintro i H3 hi ⟨s3, eD⟩
      refine ⟨rfl, _, rfl, _, rfl, p1, g1, m1, i, by rw [Int.zero_add]; rfl, (La2.same s3).pr, Sa.ne, ?_⟩
      refine ⟨_, rfl, _, rfl, _, rfl, p2, g2, m2, i, by rw [Int.zero_add]; rfl, (Lb.same s3).pr, Sb.ne, ?_⟩
      have bw2 := bw i
      rw [← Sb.same] at bw2
      refine ⟨_, _, rfl, rfl, .inr ⟨by omega, by omega⟩, _, _, rfl, rfl, ?_⟩
      refine ⟨_, eD, lenI (by rw [List.length_map, List.length_range]; omega), fun c o hc => ?_, by rw [upd_same, List.range_succ, List.map_append, List.map_append]; rfl⟩
      rw [upd_ne (ne_of_none hc hD)]
      exact s3 _ _ hc
    · rintro H3 ⟨s3, eD⟩
      have eD : H3 D = some (.lst (((List.range (st + M)).map (jw g1 m1 g2 m2 z)).map V.int)) := eD
      -- return shortest_lasso(letters[:start], letters[start:])
      refine ⟨_, rfl, _, rfl, _, rfl, ?_⟩
      refine sll_to eD rfl fun r1 hr1 => ?_
      have t1 : Same H3 (upd H3 r1 (.lst ((((List.range (st + M)).map (jw g1 m1 g2 m2 z)).take st).map V.int))) := same_new hr1
      refine ⟨_, rfl, _, rfl, _, rfl, ?_⟩
      walk_at "nl"
      refine sll_from (t1 _ _ eD) rfl (by rw [List.length_map, List.length_range]; omega) fun r2 hr2 => ?_
      have t2 : Same (upd H3 r1 (.lst ((((List.range (st + M)).map (jw g1 m1 g2 m2 z)).take st).map V.int))) (upd (upd H3 r1 (.lst ((((List.range (st + M)).map (jw g1 m1 g2 m2 z)).take st).map V.int))) r2 (.lst ((((List.range (st + M)).map (jw g1 m1 g2 m2 z)).drop st).map V.int))) := same_new hr2
      have el2 : (((List.range (st + M)).map (jw g1 m1 g2 m2 z)).drop st).length = M := by
        rw [List.length_drop, List.length_map, List.length_range]
        omega
      have el1 : (((List.range (st + M)).map (jw g1 m1 g2 m2 z)).take st).length = st := by
        rw [List.length_take, List.length_map, List.length_range]
        omega
      have ew : ∀ t, jw g1 m1 g2 m2 z t = jw h1 l1 h2 l2 z t := fun t => by
        unfold jw
        rw [Sa.same, Sb.same]
      refine ⟨r1, r2, _, _, rfl, .inl (t2 _ _ upd_same), .inl upd_same, fun y => ?_, by omega, by omega, fun H4 p4 h' l' s4 L4 S4 => ?_⟩
      · rw [y] at el2
        have : (0 : Nat) = M := el2
        omega
      · have o1 := S4.hl
        have o2 := S4.ll
        have mem : ∀ x, x ∈ (List.range (st + M)).map (jw g1 m1 g2 m2 z) → ∃ t, x = jw h1 l1 h2 l2 z t := fun x hx => by
          obtain ⟨t, _, rfl⟩ := List.mem_map.mp hx
          exact ⟨t, ew t⟩
        refine k H4 p4 h' l' (s1.trans (s2.trans (s3.trans (t1.trans (t2.trans s4))))) L4 S4.nrm (fun t => ?_) (by omega) (by omega) (fun x hx => ?_)
        · rw [S4.same, jw_cut Sa.ne Sb.ne hs1 hs2 hM d1 d2, ew]
        · rcases hx with y | y
          · exact mem x (List.mem_of_mem_take (S4.memH x y))
          · exact mem x (List.mem_of_mem_drop (S4.memL x y))
theorem wat_memM {h l : List Int} (hne : l ≠ []) (n : Nat) : wat h l n ∈ h ∨ wat h l n ∈ l := by
  have hl := List.length_pos_iff.mpr hne
  unfold wat
  by_cases c : n < h.length
  · rw [if_pos c, List.getD_eq_getElem?_getD, List.getElem?_eq_getElem c]
    exact .inl (List.getElem_mem c)
  · rw [if_neg c, List.getD_eq_getElem?_getD, List.getElem?_eq_getElem (Nat.mod_lt _ hl)]
    exact .inr (List.getElem_mem _)
def spResp (C cL : Addr) : Sp := fun vs H Q E => ∃ (x p : Addr) (I O L : Int) (op h l : List Int) (c : List (List (Int × Int))), vs = [.ref x, .ref p] ∧ MchAt C H x I O L op c ∧ Vm I O L op c ∧ c.length ≤ 4 ∧ Las H p h l ∧ l ≠ [] ∧ h.length ≤ 450 ∧ l.length ≤ 450 ∧ (∀ z, z ∈ h ∨ z ∈ l → 0 ≤ z) ∧
  ((∃ z, (z ∈ h ∨ z ∈ l) ∧ I ≤ z) → ∀ H', Same H H' → E (.ref cL) none H') ∧
  ((∀ z, z ∈ h ∨ z ∈ l → z < I) → ∀ (H' : Hp) (p' : Addr) (hh ll : List Int), Same H H' → Las H' p' hh ll → Nrm hh ll → ll ≠ [] → (∀ n, wat hh ll n = sd0 op (emt c (wat h l)) ((max 0 L).toNat + n)) → hh.length ≤ op.length + h.length + (c.length - 1) * l.length → ll.length ≤ c.length * l.length → (∀ z, z ∈ hh ∨ z ∈ ll → 0 ≤ z ∧ z < O) → Q (.ref p') H')
theorem cal_resp {C cL : Addr} (T : Txt K mg) (eL : ErrC K mg "InvalidLetter" cL) (PC : MchC K C) : CalX P w K mg base 4 "respond" (spResp C cL) := by
  have X_check_letters : CalX P w K mg base 1 "check_letters" (spCheckX cL) := cal_checkX T eL
  have C_shortest_lasso : C8.Cal P w K mg base 2 "shortest_lasso" spShort [] := cal_short T
  have C_suffix : C8.Cal P w K mg base 3 "suffix" spSuffix [] := cal_suffix T
  have C_run : C8.Cal P w K mg base 1 "run" (spRun C) [] := cal_run T PC
  obtain ⟨f, fd, F, hm, hb⟩ := T.h_respond
  refine ⟨f, fd, _, F.okX sc_respond (fun vs H Q E h => ?_) (fun cdv A outer s H vs Q E hr h => ?_), hm, F.kp, hb⟩
  · obtain ⟨x, p, I, O, L, op, h, l, c, rfl, _⟩ := h
    rfl
  · obtain ⟨x, p, I, O, L, op, h, l, c, rfl, hA, hV, hc, hlas, hne, hh, hl, hz0, q1, q2⟩ := h
    refine ⟨_, (pss_cons
      (ps_expr (pe_cx X_check_letters hr (by decide) (takes_of rfl rfl rfl rfl) (by rfl) (pa_cons (pv 1) (pa_cons (pe_fld (pv 0) rfl) pa_nil))))
      (pss_cons
      (ps_asg (C8.pe_c C_shortest_lasso hr (by decide) (by rfl) (pa_cons (pe_ix (ix_tupK (K := K) rfl) (pv 1) pe_int (fun _ _ => rfl)) (pa_cons (pe_ix (ix_tupK (K := K) rfl) (pv 1) pe_int (fun _ _ => rfl)) pa_nil))) (pg_tup (by rfl) (pgs_cons (pg_name (i := 2) sc_respond.nd rfl (.inl rfl)) (pgs_cons (pg_name (i := 3) sc_respond.nd rfl (.inl rfl)) pgs_nil))))
      (pss_cons
      (ps_asg (C8.pe_c C_run hr (by decide) (by rfl) (pa_cons (pv 0) (pa_cons pe_int (pa_cons (pv 2) pa_nil)))) (pg_tup (by rfl) (pgs_cons (pg_name (i := 4) sc_respond.nd rfl (.inl rfl)) (pgs_cons (pg_name (i := 5) sc_respond.nd rfl (.inl rfl)) pgs_nil))))
      (pss_cons
      (ps_set (i := 6) sc_respond.nd rfl (Or.inl rfl) pe_dnewK)
      (C8.pss_cut
      (ps_while (passes_of rfl) (pt_cmp (pc_dnotin (hu_of hr) (pv 4) (pv 6))) (pss_cons
      (ps_dput (hu_of hr) (pv 6) (pv 4) (pe_callB (call_lenK (K := K) rfl) (by rfl) T.z_len PySem.boot_len (pa_cons (pv 5) pa_nil)) rfl)
      (pss_cons
      (ps_asg (C8.pe_c C_run hr (by decide) (by rfl) (pa_cons (pv 0) (pa_cons (pv 4) (pa_cons (pv 3) pa_nil)))) (pg_tup (by rfl) (pgs_cons (pg_name (i := 4) sc_respond.nd rfl (.inl rfl)) (pgs_cons (pg_name (i := 7) sc_respond.nd rfl (.inl rfl)) pgs_nil))))
      (pss_one
      (ps_expr (pe_bm PySem.F.plainAttrs_list PySem.F.slot_list_extend PySem.F.type_list_extend mt_extend (pv 5) (pa_cons (pv 7) pa_nil)))))))
      (pss_cons
      (ps_set (i := 8) sc_respond.nd rfl (Or.inl rfl) (pe_dget (hu_of hr) (pv 6) (pv 4) (fun _ _ => rfl)))
      (pss_cons
      (ps_set (i := 9) sc_respond.nd rfl (Or.inl rfl) (C8.pe_c C_shortest_lasso hr (by decide) (by rfl) (pa_cons (pe_op op_cat (pe_callTy (call_list_ofK (K := K) rfl) (by rfl) T.z_list (by decide +kernel) (pa_cons (pe_fld (pv 0) rfl) pa_nil)) (pe_slice (sl_listK (K := K) rfl) (pv 5) po_none (po_some (pv 8)))) (pa_cons (pe_slice (sl_listK (K := K) rfl) (pv 5) (po_some (pv 8)) po_none) pa_nil))))
      (pss_one
      (ps_ret (C8.pe_c C_suffix hr (by decide) (by rfl) (pa_cons (pv 9) (pa_cons (pe_callB (call_max2 rfl) (by rfl) T.z_max (by decide +kernel) (pa_cons pe_int (pa_cons (pe_fld (pv 0) rfl) pa_nil))) pa_nil)))))))))))), ?_⟩
    obtain ⟨dx, ot, rt, as, e1, e2, e3, e4⟩ := id hA
    obtain ⟨pa, pb, p1, p2, p3⟩ := id hlas
    refine ⟨_, rfl, _, rfl, x, C, dx, _, _, rfl, e1, PC.cl, PC.nI, mf_I _ _ _ _ _, p, h, l, I, rfl, hlas, hne, by omega, by omega, q1, fun hgood H1 s1 => ?_⟩
    have hW : ∀ n, 0 ≤ wat h l n ∧ wat h l n < I := fun n => ⟨hz0 _ (wat_memM hne n), hgood _ (wat_memM hne n)⟩
    have hop : op.length ≤ 3 := by have := hV.op_len; have := hV.l0; omega
    have hcn : 0 < c.length := List.length_pos_iff.mpr hV.ne
    have hWc : Wc I c := ⟨hV.w, hV.st⟩
    refine ⟨_, rfl, p, _, _, _, rfl, rfl, .of (s1 _ _ p1), rfl, _, rfl, p, _, _, _, rfl, rfl, .of (s1 _ _ p1), rfl, pa, pb, h, l, rfl, .inr (s1 _ _ p2), .inr (s1 _ _ p3), hne, by omega, by omega, fun H2 q h' l' s2 L2 S => ?_⟩
    obtain ⟨qa, qb, g1, g2, g3⟩ := id L2
    refine ⟨q, _, rfl, .of g1, rfl, _, _, rfl, _, _, rfl, rfl, ?_⟩
    have hl' := List.length_pos_iff.mpr S.ne
    have hWe : wat h' l' = wat h l := funext S.same
    obtain ⟨w1, w2⟩ := wat_seg (h := h') S.ne
    rw [hWe] at w1 w2
    obtain ⟨PN, hP⟩ : ∃ PN, PN = h'.length := ⟨_, rfl⟩
    obtain ⟨pp, hpp⟩ : ∃ pp, pp = l'.length := ⟨_, rfl⟩
    rw [← hP] at w1 w2
    rw [← hpp] at w2 hl'
    have hSh := S.hl
    have hSl := S.ll
    rw [← hP] at hSh
    rw [← hpp] at hSl
    have hper : ∀ n k, PN ≤ n → wat h l (n + k * pp) = wat h l n := fun n k hn => by rw [← hWe, hpp]; exact wat_per S.ne n (by omega) k
    obtain ⟨W, hWd⟩ : ∃ W, W = wat h l := ⟨_, rfl⟩
    rw [← hWd] at w1 w2 hW hper q2
    have hst := stt_in hWc hV.ne hW
    have s12 := s1.trans s2
    have hmem : ∀ z ∈ h', 0 ≤ z ∧ z < I := fun z hz => ⟨hz0 z (.inl (S.memH z hz)), hgood z (.inl (S.memH z hz))⟩
    have hmel : ∀ z ∈ l', 0 ≤ z ∧ z < I := fun z hz => ⟨hz0 z (.inr (S.memL z hz)), hgood z (.inr (S.memL z hz))⟩
    refine ⟨_, rfl, _, rfl, x, qa, I, O, L, 0, op, h', c, rfl, mch_same s12 hA, hWc, by omega, by omega, .inr g2, hmem, by omega, fun H3 t D s3 nt nD ntD et eD => ?_⟩
    obtain ⟨r1, r2⟩ := run_seg c W 0 PN
    rw [← w1] at r1 r2
    rw [Nat.zero_add] at r1
    have r1 : rst c 0 h' = stt c W PN := r1
    have r2 : rem c 0 h' = seg (emt c W) 0 PN := r2
    rw [r1] at et
    rw [r2] at eD
    refine ⟨t, _, rfl, .of et, rfl, _, _, rfl, _, _, rfl, rfl, ?_⟩
    refine fun B nB => ?_
    have s13 := s12.trans s3
    have nDB : D ≠ B := fun z => by rw [z, nB] at eD; cases eD
    have sB := same_new (o := .dK []) nB
    have eB := upd_same (H := H3) (a := B) (o := .dK [])
    have eDB := sB _ _ eD
    have s14 := s13.trans sB
    have hD0 : H D = none := s12.free nD
    have hB0 : H B = none := s13.free nB
    generalize upd H3 B (.dK []) = H4 at sB eB eDB s14 ⊢
    obtain ⟨G, hG⟩ : ∃ G : Nat → Int, G = fun j => stt c W (PN + j * pp) := ⟨_, rfl⟩
    have hGi : ∀ j, stt c W (PN + j * pp) = G j := fun j => by rw [hG]
    have hGr : ∀ j, 0 ≤ G j ∧ G j < (c.length : Int) := fun j => by rw [← hGi]; exact hst _
    have cnt : ∀ i, (∀ j k, j < k → k < i → G j ≠ G k) → i ≤ c.length := fun i hd => distinct_le c.length i (fun j => (G j).toNat) (fun j _ => by have := hGr j; show (G j).toNat < _; omega) (fun j k h1 h2 => by have := hGr j; have := hGr k; have := hd j k h1 h2; show (G j).toNat ≠ (G k).toNat; omega)
    refine ⟨fun σ H' => ∃ (i j : Nat) (kvs : List (Key × V)) (v7 : Option V), σ = [some (.ref x), some (.ref p), some (.ref qa), some (.ref qb), some (.int (G i)), some (.ref D), some (.ref B), v7, none, none] ∧ Same H H' ∧ H' D = some (.lst ((seg (emt c W) 0 (PN + i * pp)).map V.int)) ∧ H' B = some (.dK kvs) ∧ j < i ∧ i ≤ c.length ∧ G i = G j ∧ valV kvs (.inl (G i)) = some (.int ((PN + j * pp : Nat) : Int)), ?_, ?_⟩
    · refine ⟨fun m σ H' => ∃ (i : Nat) (kvs : List (Key × V)) (v7 : Option V), m = c.length + 1 - i ∧ σ = [some (.ref x), some (.ref p), some (.ref qa), some (.ref qb), some (.int (G i)), some (.ref D), some (.ref B), v7, none, none] ∧ Same H H' ∧ H' qb = some (.tup (l'.map V.int)) ∧ H' D = some (.lst ((seg (emt c W) 0 (PN + i * pp)).map V.int)) ∧ H' B = some (.dK kvs) ∧ kvs.length = i ∧ (∀ j k, j < k → k < i → G j ≠ G k) ∧
        (∀ j, j < i → valV kvs (.inl (G j)) = some (.int ((PN + j * pp : Nat) : Int))) ∧ ∀ k v, valV kvs k = some v → ∃ j, j < i ∧ k = .inl (G j),
        ⟨c.length + 1, 0, [], none, rfl, by rw [← hGi, Nat.zero_mul, Nat.add_zero]; rfl, s14, (s3.trans sB) _ _ g3, by rw [Nat.zero_mul, Nat.add_zero]; exact eDB, eB, rfl, fun j k _ h => absurd h (Nat.not_lt_zero _), fun j h => absurd h (Nat.not_lt_zero _), fun k v h => by (cases h)⟩, ?_⟩
      rintro m σ H5 ⟨i, kvs, v7, rfl, rfl, s5, f5, eD5, eB5, hkl, hdis, hin, hback⟩
      have hic := cnt i hdis
      refine ⟨_, rfl, _, rfl, B, _, rfl, DGet.k (k := .inl (G i)) eB5, _, rfl, ?_⟩
      cases hv : valV kvs (.inl (G i)) with
      | some v =>
        refine ite_f (by simp) ?_
        obtain ⟨j, hj, hk⟩ := hback _ _ hv
        have hk : G i = G j := Sum.inl.inj hk
        exact ⟨i, j, kvs, v7, rfl, s5, eD5, eB5, hj, hic, hk, by rw [hk]; exact hin j hj⟩
      | none =>
        refine ite_t (by simp) ?_
        have hnew : ∀ j, j < i → G j ≠ G i := fun j hj z => by have := hin j hj; rw [z, hv] at this; cases this
        have hdis' : ∀ j k, j < k → k < i + 1 → G j ≠ G k := fun j k h1 h2 => by
          rcases Nat.lt_or_ge k i with y | y
          · exact hdis j k h1 y
          · have : k = i := by omega
            subst this
            exact hnew j h1
        have hic' := cnt (i + 1) hdis'
        refine ⟨fun σ' H' => ∃ (kvs : List (Key × V)) (v7 : Option V), σ' = [some (.ref x), some (.ref p), some (.ref qa), some (.ref qb), some (.int (G (i + 1))), some (.ref D), some (.ref B), v7, none, none] ∧ Same H H' ∧ H' qb = some (.tup (l'.map V.int)) ∧ H' D = some (.lst ((seg (emt c W) 0 (PN + (i + 1) * pp)).map V.int)) ∧ H' B = some (.dK kvs) ∧ kvs.length = i + 1 ∧
          (∀ j, j < i + 1 → valV kvs (.inl (G j)) = some (.int ((PN + j * pp : Nat) : Int))) ∧ ∀ k v, valV kvs k = some v → ∃ j, j < i + 1 ∧ k = .inl (G j), fun σ' H' hN => ?_, ?_⟩
        · obtain ⟨kvs', v7', a1, a2, a3, a4, a5, a6, a7, a8⟩ := hN
          exact ⟨c.length + 1 - (i + 1), by omega, i + 1, kvs', v7', rfl, a1, a2, a3, a4, a5, a6, hdis', a7, a8⟩
        have hbk : (((seg (emt c W) 0 (PN + i * pp)).map V.int).length : Int) = ((PN + i * pp : Nat) : Int) := by rw [List.length_map, seg_len]
        have hpb : i * pp ≤ 4 * 450 := Nat.mul_le_mul (by omega) (by omega)
        refine ⟨_, rfl, D, _, rfl, .inl (.of eD5), _, rfl, _, rfl, B, _, rfl, DPut.k (k := .inl (G i)) eB5 (by rw [hkl]; exact Nat.lt_of_le_of_lt (show i ≤ 1000 by omega) (by decide)), ?_⟩
        rw [putK_new _ hv, hbk]
        have k6 : Kp B H5 (upd H5 B (.dK (kvs ++ [(.inl (G i), .int ((PN + i * pp : Nat) : Int))]))) := Kp.own
        have eB6 := upd_same (H := H5) (a := B) (o := .dK (kvs ++ [(.inl (G i), .int ((PN + i * pp : Nat) : Int))]))
        generalize upd H5 B (.dK (kvs ++ [(.inl (G i), .int ((PN + i * pp : Nat) : Int))])) = H6 at k6 eB6 ⊢
        have s6 : Same H H6 := fun b o hb => k6 _ _ (ne_of_none hb hB0) (s5 _ _ hb)
        have nqB : qb ≠ B := fun z => by rw [z, eB5] at f5; cases f5
        have f6 := k6 _ _ nqB f5
        have eD6 := k6 _ _ nDB eD5
        obtain ⟨u1, u2⟩ := run_seg c W (PN + i * pp) pp
        rw [← w2 i, hGi, show PN + i * pp + pp = PN + (i + 1) * pp by rw [Nat.add_mul, Nat.one_mul]; omega, hGi] at u1
        rw [← w2 i, hGi] at u2
        refine ⟨_, rfl, _, rfl, _, rfl, x, qb, I, O, L, G i, op, l', c, rfl, mch_same s6 hA, hWc, (hGr i).1, (hGr i).2, .inr f6, hmel, by omega, fun H7 t2 M s7 nt2 nM ntM et2 eM => ?_⟩
        rw [u1] at et2
        rw [u2] at eM
        refine ⟨t2, _, rfl, .of et2, rfl, _, _, rfl, _, _, rfl, rfl, ?_⟩
        have eD7 := s7 _ _ eD6
        have nMD : M ≠ D := fun z => by rw [z, eD6] at nM; cases nM
        refine ⟨_, rfl, .inl ⟨rfl, _, .of eD7⟩, _, rfl, D, M, _, _, rfl, rfl, eD7, eM, by rw [List.length_map, List.length_map, seg_len, seg_len]; exact Nat.le_trans (show _ ≤ 20000 by omega) (by decide), ?_⟩
        rw [← List.map_append, ← Nat.zero_add (PN + i * pp), Nat.zero_add (PN + i * pp)]
        have e8 : seg (emt c W) 0 (PN + i * pp) ++ seg (emt c W) (PN + i * pp) pp = seg (emt c W) 0 (PN + (i + 1) * pp) := by
          have := seg_app (f := emt c W) (a := 0) (j := PN + i * pp) pp
          rw [Nat.zero_add] at this
          rw [← this, Nat.add_mul, Nat.one_mul, Nat.add_assoc]
        rw [e8]
        refine ⟨kvs ++ [(.inl (G i), .int ((PN + i * pp : Nat) : Int))], _, rfl, fun b o hb => by rw [upd_ne (ne_of_none hb hD0)]; exact s7 _ _ (s6 _ _ hb), ?_, upd_same, ?_, by rw [List.length_append, hkl]; rfl, fun j hj => ?_, fun k v hkv => ?_⟩
        · rw [upd_ne (fun z => by rw [z, eD6] at f6; cases f6)]
          exact s7 _ _ f6
        · rw [upd_ne nDB.symm]
          exact s7 _ _ eB6
        · rw [valV_snoc _ _ _ _ hv]
          by_cases y : (Sum.inl (G j) : Key) = .inl (G i)
          · rw [if_pos y]
            rcases Nat.lt_or_ge j i with y2 | y2
            · exact absurd (Sum.inl.inj y) (hnew j y2)
            · have : j = i := by omega
              rw [this]
          · rw [if_neg y]
            exact hin j (by rcases Nat.lt_or_ge j i with y2 | y2; exact y2; exact absurd (by rw [show j = i by omega]) y)
        · rw [valV_snoc _ _ _ _ hv] at hkv
          by_cases y : k = .inl (G i)
          · exact ⟨i, by omega, y⟩
          · rw [if_neg y] at hkv
            obtain ⟨j, hj, hk⟩ := hback k v hkv
            exact ⟨j, by omega, hk⟩
    · rintro σ H5 ⟨i, j, kvs, v7, rfl, s5, eD5, eB5, hj, hic, hG2, hval⟩
      have hpb : i * pp ≤ 4 * 450 := Nat.mul_le_mul (by omega) (by omega)
      obtain ⟨k, rfl⟩ : ∃ k, i = j + (k + 1) := ⟨i - j - 1, by omega⟩
      obtain ⟨a, ha⟩ : ∃ a, a = PN + j * pp := ⟨_, rfl⟩
      obtain ⟨qq, hqq⟩ : ∃ qq, qq = (k + 1) * pp := ⟨_, rfl⟩
      have hq0 : 0 < qq := by rw [hqq]; exact Nat.mul_pos (Nat.succ_pos k) hl'
      have hN : PN + (j + (k + 1)) * pp = a + qq := by rw [Nat.add_mul, ← hqq, ha]; omega
      rw [hN] at eD5
      rw [Nat.add_mul, ← hqq] at hpb
      have hst2 : stt c W (a + qq) = stt c W a := by rw [← hN, ha, hGi, hGi, hG2]
      have hWp : ∀ n, a ≤ n → W (n + qq) = W n := fun n hn => by rw [hqq]; exact hper n (k + 1) (by omega)
      have hE := emt_per (c := c) hst2 hWp
      refine ⟨_, rfl, _, rfl, B, _, rfl, (by have := DGet.k (k := .inl (G (j + (k + 1)))) eB5; rw [hval] at this; exact this), ?_⟩
      rw [← ha]
      refine ⟨_, rfl, x, C, dx, _, _, rfl, s5 _ _ e1, PC.cl, PC.no, mf_o _ _ _ _ _, ot, _, rfl, .inr (.of (s5 _ _ e2)), fun b1 n1 => ?_⟩
      have t1 := same_new (o := .lst (op.map V.int)) n1
      have f1 := upd_same (H := H5) (a := b1) (o := .lst (op.map V.int))
      generalize upd H5 b1 (.lst (op.map V.int)) = H6 at t1 f1 ⊢
      have sa := seg_app (f := emt c W) (a := 0) (j := a) qq
      rw [Nat.zero_add] at sa
      refine ⟨_, rfl, _, rfl, _, rfl, D, _, rfl, .of (t1 _ _ eD5), fun b2 n2 => ?_⟩
      rw [cut_take, ← List.map_take, sa, List.take_left' seg_len]
      have t2 := same_new (o := .lst ((seg (emt c W) 0 a).map V.int)) n2
      have f2 := upd_same (H := H6) (a := b2) (o := .lst ((seg (emt c W) 0 a).map V.int))
      generalize upd H6 b2 (.lst ((seg (emt c W) 0 a).map V.int)) = H7 at t2 f2 ⊢
      refine ⟨b1, b2, _, _, rfl, rfl, t2 _ _ f1, f2, by rw [List.length_map, List.length_map, seg_len]; exact Nat.le_trans (show _ ≤ 20000 by omega) (by decide), fun b3 n3 => ?_⟩
      rw [← List.map_append]
      have t3 := same_new (o := .lst ((op ++ seg (emt c W) 0 a).map V.int)) n3
      have f3 := upd_same (H := H7) (a := b3) (o := .lst ((op ++ seg (emt c W) 0 a).map V.int))
      generalize upd H7 b3 (.lst ((op ++ seg (emt c W) 0 a).map V.int)) = H8 at t3 f3 ⊢
      refine ⟨_, rfl, _, rfl, _, rfl, D, _, rfl, .of (t3 _ _ (t2 _ _ (t1 _ _ eD5))), fun b4 n4 => ?_⟩
      rw [cut_drop, ← List.map_drop, sa, List.drop_left' seg_len]
      have t4 := same_new (o := .lst ((seg (emt c W) a qq).map V.int)) n4
      have f4 := upd_same (H := H8) (a := b4) (o := .lst ((seg (emt c W) a qq).map V.int))
      generalize upd H8 b4 (.lst ((seg (emt c W) a qq).map V.int)) = H9 at t4 f4 ⊢
      have hqne : seg (emt c W) a qq ≠ [] := fun z => by have := congrArg List.length z; rw [seg_len] at this; rw [this] at hq0; exact absurd hq0 (Nat.lt_irrefl 0)
      refine ⟨b3, b4, _, _, rfl, .inl (t4 _ _ f3), .inl f4, hqne, by rw [List.length_append, seg_len]; omega, by rw [seg_len]; omega, fun HA pw h9 l9 t5 L9 S9 => ?_⟩
      have s0A := ((s5.trans t1).trans (t2.trans t3)).trans (t4.trans t5)
      have emx : (if L > 0 then L else 0) = (((max 0 L).toNat : Nat) : Int) := by split <;> omega
      have k9 := S9.hl
      have m9 := S9.ll
      rw [List.length_append, seg_len] at k9
      rw [seg_len] at m9
      refine ⟨_, rfl, _, rfl, x, C, dx, _, _, rfl, s0A _ _ e1, PC.cl, PC.nL, mf_L _ _ _ _ _, _, _, rfl, pw, h9, l9, (max 0 L).toNat, by rw [emx]; rfl, L9, S9.ne, by omega, by omega, fun HB p' hh ll t6 LB SB => ?_⟩
      have hem : ∀ n, 0 ≤ emt c W n ∧ emt c W n < O := fun n => by
        obtain ⟨row, g1', g2', _⟩ := cel_get hWc (hst n).1 (hst n).2 (hW n).1 (hW n).2
        exact hV.em row (List.mem_of_getElem? g1') _ (List.mem_of_getElem? g2')
      have hsg : ∀ (a k : Nat) z, z ∈ seg (emt c W) a k → 0 ≤ z ∧ z < O := fun a k z hz => by
        obtain ⟨i, _, rfl⟩ := List.mem_map.mp hz
        exact hem _
      have hm9 : ∀ z, z ∈ h9 ∨ z ∈ l9 → 0 ≤ z ∧ z < O := fun z hz => by
        rcases hz with y | y
        · rcases List.mem_append.mp (S9.memH z y) with u | u
          · exact hV.op_in z u
          · exact hsg _ _ z u
        · exact hsg _ _ z (S9.memL z y)
      have hj1 : j * pp ≤ (c.length - 1) * l.length := Nat.mul_le_mul (by omega) hSl
      have hk1 : qq ≤ c.length * l.length := by rw [hqq]; exact Nat.mul_le_mul (by omega) hSl
      exact q2 hgood HB p' hh ll (s0A.trans t6) LB SB.1 SB.1.ne (fun n => by rw [SB.2.1, S9.same, said_wat hq0 hE]) (by have := SB.2.2.1; omega) (by have := SB.2.2.2.1; omega) (fun z hz => hz.elim (fun y => hm9 z (SB.2.2.2.2.1 z y)) (fun y => hm9 z (.inr (SB.2.2.2.2.2 z y))))
def spTrace (C cL : Addr) : Sp := fun vs H Q E => ∃ (x p : Addr) (I O L : Int) (op h l : List Int) (c : List (List (Int × Int))), vs = [.ref x, .ref p] ∧ MchAt C H x I O L op c ∧ Vm I O L op c ∧ c.length ≤ 4 ∧ O ≤ 10 ∧ Las H p h l ∧ l ≠ [] ∧ h.length ≤ 450 ∧ l.length ≤ 450 ∧ (∀ z, z ∈ h ∨ z ∈ l → 0 ≤ z) ∧
  ((∃ z, (z ∈ h ∨ z ∈ l) ∧ I ≤ z) → ∀ H', Same H H' → E (.ref cL) none H') ∧
  ((∀ z, z ∈ h ∨ z ∈ l → z < I) → ∀ (H' : Hp) (p' : Addr) (h' l' : List Int), Same H H' → Las H' p' h' l' → Nrm h' l' → (∀ n, wat h' l' n = wat h l n + I * sd0 op (emt c (wat h l)) ((max 0 L).toNat + n)) → h'.length ≤ 900000 → l'.length ≤ 900000 →
    (∀ z, z ∈ h' ∨ z ∈ l' → 0 ≤ z ∧ z < I * O) → Q (.ref p') H')
theorem cal_trace {C cL : Addr} (T : Txt K mg) (eL : ErrC K mg "InvalidLetter" cL) (PC : MchC K C) (gM : mg "lcm" = some (.builtin "math.lcm")) : CalX P w K mg base 5 "trace" (spTrace C cL) := by
  have X_respond : CalX P w K mg base 4 "respond" (spResp C cL) := cal_resp T eL PC
  have C_combine : C8.Cal P w K mg base 3 "combine" spComb [] := cal_combine T gM
  obtain ⟨f, fd, F, hm, hb⟩ := T.h_trace
  refine ⟨f, fd, _, F.okX sc_trace (fun vs H Q E h => ?_) (fun cdv A outer s H vs Q E hr h => ?_), hm, F.kp, hb⟩
  · obtain ⟨x, p, I, O, L, op, h, l, c, rfl, _⟩ := h
    rfl
  · obtain ⟨x, p, I, O, L, op, h, l, c, rfl, hA, hV, hc, hO, hlas, hne, hh, hl, hz0, q1, q2⟩ := h
    refine ⟨_, (pss_one
      (ps_ret (C8.pe_c C_combine hr (by decide) (by rfl) (pa_cons (pv 1) (pa_cons (pe_cx X_respond hr (by decide) (takes_of rfl rfl rfl rfl) (by rfl) (pa_cons (pv 0) (pa_cons (pv 1) pa_nil))) (pa_cons (pe_fld (pv 0) rfl) pa_nil)))))), ?_⟩
    obtain ⟨dx, ot, rt, as, e1, e2, e3, e4⟩ := id hA
    have hop : op.length ≤ 3 := by have := hV.op_len; have := hV.l0; omega
    refine ⟨_, rfl, _, rfl, _, rfl, x, p, I, O, L, op, h, l, c, rfl, hA, hV, by omega, hlas, hne, by omega, by omega, hz0, q1, fun hg H1 p1 u v s1 L1 N1 ne1 eq1 b1 b2 rg => ?_⟩
    have hb1 : (c.length - 1) * l.length ≤ 3 * 450 := Nat.mul_le_mul (by omega) (by omega)
    have hb2 : c.length * l.length ≤ 4 * 450 := Nat.mul_le_mul (by omega) (by omega)
    have hI := hV.i1
    have hwu : ∀ t, 0 ≤ wat u v t ∧ wat u v t < O := fun t => rg _ (wat_mem ne1 t)
    have hwh : ∀ t, 0 ≤ wat h l t ∧ wat h l t < I := fun t => ⟨hz0 _ (wat_mem hne t), hg _ (wat_mem hne t)⟩
    refine ⟨_, rfl, x, C, dx, _, _, rfl, s1 _ _ e1, PC.cl, PC.nI, mf_I _ _ _ _ _, p, p1, h, l, u, v, I, rfl, hlas.same s1, L1, hne, ne1, by omega, by omega, by omega, by omega, fun t => ⟨(hwu t).1, by have := (hwu t).2; omega⟩, fun H2 p2 h' l' s2 L2 N2 eq2 b3 b4 rg2 => ?_⟩
    refine q2 hg H2 p2 h' l' (s1.trans s2) L2 N2 (fun n => by rw [eq2]; unfold jw; rw [eq1]) b3 b4 fun z hz => ?_
    obtain ⟨t, rfl⟩ := rg2 z hz
    unfold jw
    obtain ⟨a1, a2⟩ := hwh t
    obtain ⟨a3, a4⟩ := hwu t
    have m1 : 0 ≤ I * wat u v t := Int.mul_nonneg (by omega) a3
    have m2 : I * (wat u v t + 1) ≤ I * O := Int.mul_le_mul_of_nonneg_left (by omega) (by omega)
    rw [Int.mul_add, Int.mul_one] at m2
    omega
theorem RP.keep {mk : List V → HO} {H H' : Hp} {as : List Addr} {c : List (List (Int × Int))} (h : RP mk H as c) (k1 : ∀ a ∈ as, ∀ o, H a = some o → H' a = some o) (k2 : ∀ b xs, H b = some (.tup xs) → H' b = some (.tup xs)) : RP mk H' as c := ⟨h.len, fun i a e => by
  obtain ⟨bs, row, h1, h2, h3, h4⟩ := h.g i a e
  exact ⟨bs, row, h1, k1 a (List.mem_of_getElem? e) _ h2, h3, fun j b hb => by obtain ⟨t, l, h5, h6⟩ := h4 j b hb; exact ⟨t, l, h5, k2 _ _ h6⟩⟩⟩
theorem kp_tup {d : Addr} {H H' : Hp} (hd : Drw H d) (k : Kp d H H') : ∀ (b : Addr) (xs : List V), H b = some (.tup xs) → H' b = some (.tup xs) := fun b xs hb => k _ _ (hd.ne_tup hb) hb
def spMach : Sp := fun vs H Q _ => ∃ (d : Addr) (I O L : Int) (m : Nat), vs = [.ref d, .int I, .int O, .int L, .int m] ∧ Drw H d ∧ 1 ≤ I ∧ I ≤ 100 ∧ 1 ≤ O ∧ -3 ≤ L ∧ L ≤ 2 ∧ 1 ≤ m ∧ m ≤ 100 ∧
  ∀ (H' : Hp) (t oa r : Addr) (as : List Addr) (op : List Int) (c : List (List (Int × Int))), Kp d H H' → Drw H' d → H' t = some (.tup [.ref oa, .ref r]) → H' oa = some (.lst (op.map V.int)) → LPr H' r as c → d ≠ oa → d ≠ r → (∀ a ∈ as, a ≠ d) → Vm I O L op c → c.length ≤ m → Q (.ref t) H'
theorem cal_mach (T : Txt K mg) : C8.Cal P w K mg base 2 "_law_machine" spMach [] := by
  have C_law_take : C8.Cal P w K mg base 1 "_law_take" spTake [] := cal_take T
  obtain ⟨f, fd, F, hm, hb⟩ := T.h_law_machine
  refine ⟨f, fd, _, [], F.ok sc_law_machine (fun vs H Q E h => ?_) (fun cdv A outer s H vs Q E hr h => ?_), hm, F.kp, hb, .nil⟩
  · obtain ⟨d, I, O, L, m, rfl, _⟩ := h
    rfl
  · obtain ⟨d, I, O, L, m, rfl, hd, i1, i2, o1, l0, l1, m1, m2, q⟩ := h
    refine ⟨_, (pss_cons
      (ps_set (i := 5) sc_law_machine.nd rfl (Or.inl rfl) (pe_op op_add pe_int (C8.pe_c C_law_take hr (by decide) (by rfl) (pa_cons (pv 0) (pa_cons (pv 4) pa_nil)))))
      (pss_cons
      (ps_setLc (i := 6) (own := [("k", 12)]) (g := gName 12) (tt := tYes) rfl sc_law_machine.nd rfl rfl (sw_true rfl rfl rfl (by decide +kernel)) (pi_range1 (by rfl) T.z_range (pa_cons (pe_callB (call_max2 rfl) (by rfl) T.z_max (by decide +kernel) (pa_cons pe_int (pa_cons (pe_un un_neg (pv 3)) pa_nil))) pa_nil)) (blkOk_by (N := N_law_machine) (sc := defScope s_law_machine) (by decide +kernel)) (fun _ _ _ _ _ => (pg_name (i := 12) sc_law_machine.nd rfl (Or.inl rfl))) (fun _ _ _ _ _ => pts_nil) (fun _ _ _ _ _ => (C8.pe_c C_law_take hr (by decide) (by rfl) (pa_cons (pv 0) (pa_cons (pv 2) pa_nil)))))
      (pss_cons
      (ps_set (i := 7) sc_law_machine.nd rfl (Or.inl rfl) (pe_lst pa_nil))
      (pss_cons
      (ps_for PassesOwn.never rfl (pi_range1 (by rfl) T.z_range (pa_cons (pv 5) pa_nil)) (pg_name (i := 8) sc_law_machine.nd rfl (.inl rfl)) (pss_cons
      (ps_set (i := 9) sc_law_machine.nd rfl (Or.inl rfl) (pe_lst pa_nil))
      (pss_cons
      (ps_for PassesOwn.never rfl (pi_range1 (by rfl) T.z_range (pa_cons (pv 1) pa_nil)) (pg_name (i := 10) sc_law_machine.nd rfl (.inl rfl)) (pss_cons
      (ps_set (i := 11) sc_law_machine.nd rfl (Or.inl rfl) (C8.pe_c C_law_take hr (by decide) (by rfl) (pa_cons (pv 0) (pa_cons (pv 5) pa_nil))))
      (pss_one
      (ps_expr (pe_bm PySem.F.plainAttrs_list PySem.F.slot_list_append PySem.F.type_list_append mt_append (pv 9) (pa_cons (pe_tup (pa_cons (pv 11) (pa_cons (C8.pe_c C_law_take hr (by decide) (by rfl) (pa_cons (pv 0) (pa_cons (pv 2) pa_nil))) pa_nil))) pa_nil))))))
      (pss_one
      (ps_expr (pe_bm PySem.F.plainAttrs_list PySem.F.slot_list_append PySem.F.type_list_append mt_append (pv 7) (pa_cons (pv 9) pa_nil)))))))
      (pss_one
      (ps_ret (pe_tup (pa_cons (pv 6) (pa_cons (pv 7) pa_nil))))))))), ?_⟩
    refine ⟨_, rfl, _, rfl, d, m, rfl, hd, by omega, fun cn ds c0 c1 => ?_⟩
    have d1 : Drw (upd H d (.lst (ds.map V.int))) d := Drw.own
    have k1 : Kp d H (upd H d (.lst (ds.map V.int))) := Kp.own
    generalize upd H d (.lst (ds.map V.int)) = H1 at d1 k1 ⊢
    refine ⟨_, _, rfl, rfl, ?_⟩
    have emx : (if -L > 0 then -L else 0) = (((max 0 (-L)).toNat : Nat) : Int) := by split <;> omega
    refine ⟨_, rfl, _, rfl, _, _, rfl, _, rfl, by rw [emx]; omega, by rw [emx]; omega, fun OA hOA => ?_⟩
    rw [emx, Int.toNat_natCast]
    have nOd : OA ≠ d := fun z => by obtain ⟨o, y⟩ := d1; rw [← z, hOA] at y; cases y
    refine lc_range (lo := 0) (n := (max 0 (-L)).toNat) (fun i H' => ∃ xs : List Int, Kp d H1 H' ∧ Drw H' d ∧ H' OA = some (.lst (xs.map V.int)) ∧ xs.length = i ∧ ∀ z ∈ xs, 0 ≤ z ∧ z < O)
      ⟨[], Kp.new hOA, d1.new hOA, upd_same, rfl, by simp⟩ ?_ ?_
    · rintro i H2 hi ⟨xs, k2, d2, e2, xl, hx⟩
      refine ⟨rfl, _, rfl, _, rfl, d, O, rfl, d2, by omega, fun u us u0 u1 => ?_⟩
      have e3 : (upd H2 d (.lst (us.map V.int))) OA = some (.lst (xs.map V.int)) := by rw [upd_ne nOd]; exact e2
      have k3 : Kp d H1 (upd H2 d (.lst (us.map V.int))) := k2.trans Kp.own
      have d3 : Drw (upd H2 d (.lst (us.map V.int))) d := Drw.own
      generalize upd H2 d (.lst (us.map V.int)) = H3 at e3 k3 d3 ⊢
      refine ⟨_, e3, lenI (by omega), xs ++ [u], fun b o nb hb => ?_, ?_, by rw [upd_same, List.map_append]; rfl, by rw [List.length_append, xl]; rfl, fun z hz => ?_⟩
      · rw [upd_ne (ne_of_none hb hOA)]
        exact k3 _ _ nb hb
      · obtain ⟨o, y⟩ := d3
        exact ⟨o, by rw [upd_ne nOd.symm]; exact y⟩
      · rcases List.mem_append.mp hz with y | y
        · exact hx z y
        · rw [List.mem_singleton.mp y]; exact ⟨u0, u1⟩
    rintro H2 ⟨op, k2, d2, e2, opl, hop⟩
    have k02 := k1.trans k2
    refine ⟨Nat.zero_le _, fun R hR => ?_⟩
    have nRd : R ≠ d := fun z => by obtain ⟨o, y⟩ := d2; rw [← z, hR] at y; cases y
    have nRO : R ≠ OA := fun z => by rw [z, e2] at hR; cases hR
    have s3 := same_new (o := .lst []) hR
    have e3 := upd_same (H := H2) (a := R) (o := .lst [])
    generalize upd H2 R (.lst []) = H3 at s3 e3 ⊢
    have d3 := d2.same s3
    have eo3 := s3 _ _ e2
    have k03 : Kp d H H3 := k02.trans (Same.kp s3)
    have hcn : (1 + cn).toNat ≤ m := by omega
    refine ⟨_, rfl, _, rfl, by omega, by omega, for_range (lo := 0) (n := (1 + cn).toNat) (fun i σ H' => ∃ (v8 v9 v10 v11 v12 : Option V) (as : List Addr) (c : List (List (Int × Int))), σ = [some (.ref d), some (.int I), some (.int O), some (.int L), some (.int m), some (.int (1 + cn)), some (.ref OA), some (.ref R), v8, v9, v10, v11, v12] ∧ Kp d H H' ∧ Drw H' d ∧ H' OA = some (.lst (op.map V.int)) ∧ H' R = some (.lst (as.map V.ref)) ∧ RP .lst H' as c ∧ c.length = i ∧
      (∀ r ∈ c, (r.length : Int) = I ∧ ∀ p ∈ r, 0 ≤ p.1 ∧ p.1 < 1 + cn ∧ 0 ≤ p.2 ∧ p.2 < O) ∧ ∀ a ∈ as, a ≠ d ∧ a ≠ R)
      ⟨_, _, _, _, _, [], [], rfl, k03, d3, eo3, e3, My.RP.nil, rfl, by simp, by simp⟩ ?_ ?_⟩
    · clear k03 d3 eo3 s3 e3 k1 k2 d1 d2
      rintro i σ H4 hi ⟨v8, v9, v10, v11, v12, as, c, rfl, k4, d4, eo4, eR4, R4, hcl, hcw, has⟩
      have hal := R4.len
      refine ⟨Nat.zero_le _, fun ra hra => ?_⟩
      have nad : ra ≠ d := fun z => by obtain ⟨o, y⟩ := d4; rw [← z, hra] at y; cases y
      have naR : ra ≠ R := fun z => by rw [z, eR4] at hra; cases hra
      have naO : ra ≠ OA := fun z => by rw [z, eo4] at hra; cases hra
      have naa : ∀ a ∈ as, a ≠ ra := fun a ha z => by
        obtain ⟨j, hj⟩ := List.mem_iff_getElem?.mp ha
        obtain ⟨bs, row, _, h2, _⟩ := R4.g j a hj
        rw [z, hra] at h2
        cases h2
      have hraH : H ra = none := by
        cases e : H ra with
        | none => rfl
        | some o => rw [k4 _ _ nad e] at hra; cases hra
      have s5 := same_new (o := .lst []) hra
      have e5 := upd_same (H := H4) (a := ra) (o := .lst [])
      generalize upd H4 ra (.lst []) = H5 at s5 e5 ⊢
      refine ⟨_, rfl, _, rfl, by omega, by omega, for_range (lo := 0) (n := I.toNat) (fun j σ H' => ∃ (v10 v11 v12 : Option V) (bs : List Addr) (row : List (Int × Int)), σ = [some (.ref d), some (.int I), some (.int O), some (.int L), some (.int m), some (.int (1 + cn)), some (.ref OA), some (.ref R), some (.int (0 + (i : Int))), some (.ref ra), v10, v11, v12] ∧ Kp d H H' ∧ Drw H' d ∧ H' OA = some (.lst (op.map V.int)) ∧ H' R = some (.lst (as.map V.ref)) ∧ RP .lst H' as c ∧
        H' ra = some (.lst (bs.map V.ref)) ∧ bs.length = j ∧ row.length = j ∧ (∀ p ∈ row, 0 ≤ p.1 ∧ p.1 < 1 + cn ∧ 0 ≤ p.2 ∧ p.2 < O) ∧ ∀ (k : Nat) (b : Addr), bs[k]? = some b → ∃ t l, row[k]? = some (t, l) ∧ H' b = some (.tup [.int t, .int l]))
        ⟨_, _, _, [], [], rfl, k4.trans (Same.kp s5), d4.same s5, s5 _ _ eo4, s5 _ _ eR4, R4.same s5, e5, rfl, rfl, by simp, fun k b e => by (cases e)⟩ ?_ ?_⟩
      · clear s5 e5 d4 eo4 eR4 R4
        rintro j σ H6 hj ⟨v10, v11, v12, bs, row, rfl, k6, d6, eo6, eR6, R6, er6, hbl, hrl, hrw, hbs⟩
        refine ⟨_, rfl, _, rfl, d, 1 + cn, rfl, d6, by omega, fun t ts t0 t1 => ?_⟩
        have tk7 := kp_tup d6 (Kp.own (H := H6) (d := d) (o := .lst (ts.map V.int)))
        have k7 : Kp d H6 (upd H6 d (.lst (ts.map V.int))) := Kp.own
        have d7 : Drw (upd H6 d (.lst (ts.map V.int))) d := Drw.own
        generalize upd H6 d (.lst (ts.map V.int)) = H7 at tk7 k7 d7 ⊢
        refine ⟨_, rfl, .inl ⟨rfl, _, .of (k7 _ _ nad er6)⟩, ?_⟩
        refine ⟨_, rfl, _, rfl, _, rfl, d, O, rfl, d7, by omega, fun l ls l0' l1' => ?_⟩
        have tk8 := kp_tup d7 (Kp.own (H := H7) (d := d) (o := .lst (ls.map V.int)))
        have k8 : Kp d H7 (upd H7 d (.lst (ls.map V.int))) := Kp.own
        have d8 : Drw (upd H7 d (.lst (ls.map V.int))) d := Drw.own
        generalize upd H7 d (.lst (ls.map V.int)) = H8 at tk8 k8 d8 ⊢
        have k68 := k7.trans k8
        refine ⟨by show 2 ≤ sizeLine; decide, fun p hp => ?_⟩
        have s9 := same_new (o := .tup [.int t, .int l]) hp
        have e9 := upd_same (H := H8) (a := p) (o := .tup [.int t, .int l])
        generalize upd H8 p (.tup [.int t, .int l]) = H9 at s9 e9 ⊢
        have er9 := s9 _ _ (k68 _ _ nad er6)
        refine ⟨ra, _, _, rfl, rfl, er9, by rw [List.length_map, hbl]; exact Nat.lt_of_le_of_lt (show j ≤ 1000 by omega) (by decide), ?_⟩
        have kk : Kp ra H9 (upd H9 ra (.lst (bs.map V.ref ++ [.ref p]))) := Kp.own
        have tkk := tup_upd (o := .lst (bs.map V.ref ++ [.ref p])) er9
        have ekk := upd_same (H := H9) (a := ra) (o := .lst (bs.map V.ref ++ [.ref p]))
        generalize upd H9 ra (.lst (bs.map V.ref ++ [.ref p])) = HA at kk tkk ekk ⊢
        have T6A : ∀ b xs, H6 b = some (.tup xs) → HA b = some (.tup xs) := fun b xs hb => tkk _ _ (s9 _ _ (tk8 _ _ (tk7 _ _ hb)))
        have K6A : ∀ a, a ≠ d → a ≠ ra → ∀ o, H6 a = some o → HA a = some o := fun a n1 n2 o ho => kk _ _ n2 (s9 _ _ (k68 _ _ n1 ho))
        refine ⟨_, _, _, bs ++ [p], row ++ [(t, l)], rfl, fun b o nb hb => ?_, ?_, K6A _ nOd naO.symm _ eo6, K6A _ nRd naR.symm _ eR6, My.RP.keep R6 (fun a ha => K6A a (has a ha).1 (naa a ha)) T6A, by rw [ekk, List.map_append]; rfl, by rw [List.length_append, hbl]; rfl, by rw [List.length_append, hrl]; rfl, fun z hz => ?_, fun k b hk => ?_⟩
        · exact kk _ _ (ne_of_none hb hraH) (s9 _ _ (k68 _ _ nb (k6 _ _ nb hb)))
        · obtain ⟨o, y⟩ := d8
          exact ⟨o, kk _ _ nad.symm (s9 _ _ y)⟩
        · rcases List.mem_append.mp hz with y | y
          · exact hrw z y
          · rw [List.mem_singleton.mp y]; exact ⟨t0, t1, l0', l1'⟩
        · rcases snoc_get hk with ⟨h0, h1⟩ | ⟨h1, h2⟩
          · obtain ⟨t', l', g1, g2⟩ := hbs k b h1
            exact ⟨t', l', by rw [List.getElem?_append_left (by omega)]; exact g1, T6A _ _ g2⟩
          · subst h2
            exact ⟨t, l, by rw [List.getElem?_append_right (by omega), show k - row.length = 0 by omega]; rfl, tkk _ _ e9⟩
      · rintro σ H6 ⟨v10, v11, v12, bs, row, rfl, k6, d6, eo6, eR6, R6, er6, hbl, hrl, hrw, hbs⟩
        refine ⟨_, rfl, .inl ⟨rfl, _, .of eR6⟩, _, rfl, R, _, _, rfl, rfl, eR6, by rw [List.length_map]; exact Nat.lt_of_le_of_lt (show as.length ≤ 1000 by omega) (by decide), ?_⟩
        have hRH : H R = none := by
          cases e : H R with
          | none => rfl
          | some o => rw [k02 _ _ nRd e] at hR; cases hR
        have kk : Kp R H6 (upd H6 R (.lst (as.map V.ref ++ [.ref ra]))) := Kp.own
        have tkk := tup_upd (o := .lst (as.map V.ref ++ [.ref ra])) eR6
        have ekk := upd_same (H := H6) (a := R) (o := .lst (as.map V.ref ++ [.ref ra]))
        generalize upd H6 R (.lst (as.map V.ref ++ [.ref ra])) = H7 at kk tkk ekk ⊢
        refine ⟨_, _, _, _, _, as ++ [ra], c ++ [row], rfl, fun b o nb hb => kk _ _ (ne_of_none hb hRH) (k6 _ _ nb hb), ?_, kk _ _ nRO.symm eo6, by rw [ekk, List.map_append]; rfl, ?_, by rw [List.length_append, hcl]; rfl, fun r hr => ?_, fun a ha => ?_⟩
        · obtain ⟨o, y⟩ := d6
          exact ⟨o, kk _ _ nRd.symm y⟩
        · exact My.RP.snoc (My.RP.keep R6 (fun a ha o h => kk _ _ (has a ha).2 h) tkk) (kk _ _ naR er6) (by omega) fun k b hb => by obtain ⟨t, l, g1, g2⟩ := hbs k b hb; exact ⟨t, l, g1, tkk _ _ g2⟩
        · rcases List.mem_append.mp hr with y | y
          · exact hcw r y
          · rw [List.mem_singleton.mp y]; exact ⟨by omega, hrw⟩
        · rcases List.mem_append.mp ha with y | y
          · exact has a y
          · rw [List.mem_singleton.mp y]; exact ⟨nad, naR⟩
    · rintro σ H4 ⟨v8, v9, v10, v11, v12, as, c, rfl, k4, d4, eo4, eR4, R4, hcl, hcw, has⟩
      refine ⟨_, rfl, _, rfl, by show 2 ≤ sizeLine; decide, fun t ht => ?_⟩
      have s5 := same_new (o := .tup [.ref OA, .ref R]) ht
      refine q _ t OA R as op c (k4.trans (Same.kp s5)) (d4.same s5) upd_same (s5 _ _ eo4) ⟨s5 _ _ eR4, R4.same s5⟩ nOd.symm nRd.symm (fun a ha => (has a ha).1) ⟨i1, o1, l0, l1, by omega, fun z => by rw [z] at hcl; simp at hcl; omega, fun r hr => (hcw r hr).1, fun r hr p hp => ?_, hop, fun r hr p hp => ?_⟩ (by omega)
      · obtain ⟨g1, g2, _⟩ := (hcw r hr).2 p hp
        exact ⟨g1, by omega⟩
      · obtain ⟨_, _, g⟩ := (hcw r hr).2 p hp
        exact g
def spFlatM : Sp := fun vs H Q _ => ∃ (r : Addr) (as : List Addr) (c : List (List (Int × Int))), vs = [.ref r] ∧ LPr H r as c ∧ c.length ≤ 1000 ∧
  ∀ (H' : Hp) (r' : Addr) (as' : List Addr), Same H H' → LPr H' r' as' c → H r' = none → (∀ b ∈ as', H b = none ∧ b ≠ r') → Q (.ref r') H'
theorem cal_flatM (T : Txt K mg) : C8.Cal P w K mg base 1 "_law_flat" spFlatM [] := by
  obtain ⟨f, fd, F, hm, hb⟩ := T.h_law_flat
  refine ⟨f, fd, _, [], F.ok sc_law_flat (fun vs H Q E h => ?_) (fun cdv A outer s H vs Q E hr h => ?_), hm, F.kp, hb, .nil⟩
  · obtain ⟨r, as, c, rfl, _⟩ := h
    rfl
  · obtain ⟨r, as, c, rfl, hL, hc, q⟩ := h
    refine ⟨_, (pss_one
      (ps_ret (pe_lc (own := [("row", 1)]) (g := gName 1) (tt := tYes) rfl sc_law_flat.nd (pi_list (pv 0)) (blkOk_by (N := N_law_flat) (sc := defScope s_law_flat) (by decide +kernel)) (fun _ _ _ _ _ => (pg_name (i := 1) sc_law_flat.nd rfl (Or.inl rfl))) (fun _ _ _ _ _ => pts_nil) (fun _ _ _ _ _ => (pe_callTy (call_list_ofK (K := K) rfl) (by rfl) T.z_list (by decide +kernel) (pa_cons (pv 1) pa_nil)))))), ?_⟩
    have hl2 : (as.map V.ref).length = c.length := by rw [List.length_map, hL.2.len]
    refine ⟨_, rfl, r, rfl, ⟨_, .of hL.1⟩, fun D hD => lc_list (K := K) (a := r) (xs := as.map V.ref) (fun i H4 => ∃ as2 : List Addr, Same H H4 ∧ H4 D = some (.lst (as2.map V.ref)) ∧ RP .lst H4 as2 (c.take i) ∧ ∀ b ∈ as2, H b = none ∧ b ≠ D)
      ⟨[], same_new hD, upd_same, My.RP.nil, by simp⟩ (fun i H' _ ⟨_, z, _⟩ => .of (z _ _ hL.1)) ?_ ?_⟩
    · rintro i v H4 hi ⟨as2, s4, e4, R4, hf⟩
      obtain ⟨ra, hra, rfl⟩ := refs_get hi
      obtain ⟨bs, row, hrow, hae, hbl, hR⟩ := hL.2.g i ra hra
      have hil := (List.getElem?_eq_some_iff.mp hrow).1
      refine ⟨rfl, _, rfl, ra, _, rfl, .inl (.of (s4 _ _ hae)), fun t ht => ?_⟩
      have s5 := same_new (o := .lst (bs.map V.ref)) ht
      have e5 := upd_same (H := H4) (a := t) (o := .lst (bs.map V.ref))
      generalize upd H4 t (.lst (bs.map V.ref)) = H5 at s5 e5 ⊢
      have nDt : t ≠ D := fun z => by rw [z, e4] at ht; cases ht
      have hal := R4.len
      rw [List.length_take] at hal
      have eD5 := s5 _ _ e4
      have tu := tup_upd (o := .lst (as2.map V.ref ++ [.ref t])) eD5
      refine ⟨_, eD5, by rw [List.length_map]; exact Nat.lt_of_le_of_lt (show as2.length ≤ 1000 by omega) (by decide), as2 ++ [t], fun d u hd => ?_, by rw [upd_same, List.map_append]; rfl, ?_, fun b hb => ?_⟩
      · rw [upd_ne (ne_of_none hd hD)]
        exact s5 _ _ (s4 _ _ hd)
      · rw [take_get hrow]
        refine My.RP.snoc (My.RP.keep (R4.same s5) (fun b hb o h => by rw [upd_ne (hf b hb).2]; exact h) tu) (bs := bs) (by rw [upd_ne nDt]; exact e5) hbl fun m b hb => ?_
        obtain ⟨t', l', g1, g2⟩ := hR m b hb
        exact ⟨t', l', g1, tu _ _ (s5 _ _ (s4 _ _ g2))⟩
      · rcases List.mem_append.mp hb with y | y
        · exact hf b y
        · rw [List.mem_singleton.mp y]; exact ⟨s4.free ht, nDt⟩
    · rintro H4 ⟨as2, s4, e4, R4, hf⟩
      rw [hl2, List.take_length] at R4
      exact q H4 D as2 s4 ⟨e4, R4⟩ hD hf
def KLs (S : List Addr) (H H' : Hp) : Prop := ∀ b o, b ∉ S → H b = some o → H' b = some o
theorem mch_kl {C : Addr} {S : List Addr} {H H' : Hp} {x : Addr} {I O L : Int} {op : List Int} {c : List (List (Int × Int))} (k : KLs S H H') (hs : ∀ b ∈ S, ∃ ys, H b = some (.lst ys)) (h : MchAt C H x I O L op c) : MchAt C H' x I O L op c := by
  obtain ⟨dx, ot, rt, as, e1, e2, e3, e4⟩ := h
  have nl : ∀ {b : Addr} {o : HO}, H b = some o → (∀ ys, o ≠ .lst ys) → b ∉ S := fun hb hn z => by
    obtain ⟨ys, y⟩ := hs _ z
    rw [hb] at y
    exact hn ys (Option.some.inj y)
  exact ⟨dx, ot, rt, as, k _ _ (nl e1 fun ys z => by cases z) e1, k _ _ (nl e2 fun ys z => by cases z) e2, k _ _ (nl e3 fun ys z => by cases z) e3, RP.keepT (fun b xs hb => k _ _ (nl hb fun ys z => by cases z) hb) e4⟩
/-! play, as mathematics: a listener with the rows cR, a speaker with the rows cS and the opening op -/
section
variable (cR cS : List (List (Int × Int)))
abbrev Pc := Int × Int × List Int
def pYc (p : Pc) : Int := (cel cR p.1 (lw p.2.2 (p.2.2.length - 1))).2
def pst (p : Pc) : Pc := ((cel cR p.1 (lw p.2.2 (p.2.2.length - 1))).1, (cel cS p.2.1 (pYc cR p)).1, p.2.2.drop 1 ++ [(cel cS p.2.1 (pYc cR p)).2])
variable (op : List Int)
def pcf : Nat → Pc
  | 0 => (rst cR 0 op.dropLast, 0, op)
  | n + 1 => pst cR cS (pcf n)
def pX (n : Nat) : Int := lw (pcf cR cS op n).2.2 0
def pY (n : Nat) : Int := pYc cR (pcf cR cS op n)
end
section
variable {cR cS : List (List (Int × Int))} {op : List Int}
theorem pcf_len (h : op ≠ []) : ∀ n, (pcf cR cS op n).2.2.length = op.length
  | 0 => rfl
  | n + 1 => by
    have := List.length_pos_iff.mpr h
    show ((pcf cR cS op n).2.2.drop 1 ++ [_]).length = _
    rw [List.length_append, List.length_drop, pcf_len h n]
    show op.length - 1 + 1 = _
    omega
theorem pcf_win (h : op ≠ []) : ∀ (j n : Nat), j < op.length → lw (pcf cR cS op n).2.2 j = pX cR cS op (n + j)
  | 0, _, _ => rfl
  | j + 1, n, hj => by
    have ih := pcf_win h j (n + 1) (by omega)
    rw [show n + (j + 1) = n + 1 + j by omega, ← ih]
    show (pcf cR cS op n).2.2.getD (j + 1) 0 = ((pcf cR cS op n).2.2.drop 1 ++ [_]).getD j 0
    have hl := pcf_len (cR := cR) (cS := cS) h n
    rw [List.getD_eq_getElem?_getD, List.getD_eq_getElem?_getD, List.getElem?_append_left (by rw [List.length_drop, hl]; omega), List.getElem?_drop, Nat.add_comm 1 j]
theorem pcf_seg (h : op ≠ []) (n : Nat) : (pcf cR cS op n).2.2 = seg (pX cR cS op) n op.length := by
  apply List.ext_getElem?
  intro j
  have hl := pcf_len (cR := cR) (cS := cS) h n
  rcases Nat.lt_or_ge j op.length with y | y
  · rw [seg_get y, lw_get (by omega), pcf_win h j n y]
  · rw [List.getElem?_eq_none (by omega), List.getElem?_eq_none (by rw [seg_len]; exact y)]
theorem pcf_there : ∀ n, (pcf cR cS op n).2.1 = stt cS (pY cR cS op) n
  | 0 => rfl
  | n + 1 => by
    show (cel cS (pcf cR cS op n).2.1 (pY cR cS op n)).1 = (cel cS (stt cS (pY cR cS op) n) (pY cR cS op n)).1
    rw [pcf_there n]
theorem pcf_lastw (h : op ≠ []) (n : Nat) : lw (pcf cR cS op n).2.2 ((pcf cR cS op n).2.2.length - 1) = pX cR cS op (n + (op.length - 1)) := by
  have := List.length_pos_iff.mpr h
  rw [pcf_len h n, pcf_win h _ n (by omega)]
theorem pcf_here (h : op ≠ []) : ∀ n, (pcf cR cS op n).1 = stt cR (pX cR cS op) (n + (op.length - 1))
  | 0 => by
    have hp := List.length_pos_iff.mpr h
    have e := pcf_seg (cR := cR) (cS := cS) h 0
    have e : op = seg (pX cR cS op) 0 op.length := e
    obtain ⟨u, _⟩ := run_seg cR (pX cR cS op) 0 (op.length - 1)
    have e2 : op.dropLast = seg (pX cR cS op) 0 (op.length - 1) := by
      rw [List.dropLast_eq_take]
      conv => lhs; rw [e]
      unfold seg
      rw [← List.map_take, List.take_range, List.length_map, List.length_range, Nat.min_eq_left (by omega)]
    show rst cR 0 op.dropLast = _
    rw [e2]
    exact u
  | n + 1 => by
    show (cel cR (pcf cR cS op n).1 _).1 = _
    rw [pcf_here h n, pcf_lastw h n, show n + 1 + (op.length - 1) = n + (op.length - 1) + 1 by omega]
    rfl
theorem pY_emt (h : op ≠ []) (n : Nat) : pY cR cS op n = emt cR (pX cR cS op) (n + (op.length - 1)) := by
  show (cel cR (pcf cR cS op n).1 _).2 = _
  rw [pcf_here h n, pcf_lastw h n]
  rfl
theorem pX_emt (h : op ≠ []) (n : Nat) : pX cR cS op (n + op.length) = emt cS (pY cR cS op) n := by
  have hp := List.length_pos_iff.mpr h
  have e := pcf_win (cR := cR) (cS := cS) h (op.length - 1) (n + 1) (by omega)
  rw [show n + 1 + (op.length - 1) = n + op.length by omega] at e
  rw [← e]
  show ((pcf cR cS op n).2.2.drop 1 ++ [_]).getD (op.length - 1) 0 = _
  have hl := pcf_len (cR := cR) (cS := cS) h n
  rw [List.getD_eq_getElem?_getD, List.getElem?_append_right (by rw [List.length_drop, hl]; exact Nat.le_refl _), List.length_drop, hl, Nat.sub_self]
  show (cel cS (pcf cR cS op n).2.1 (pY cR cS op n)).2 = (cel cS (stt cS (pY cR cS op) n) (pY cR cS op n)).2
  rw [pcf_there n]
theorem pX_op (h : op ≠ []) {n : Nat} (hn : n < op.length) : pX cR cS op n = op.getD n 0 := by
  have e := pcf_win (cR := cR) (cS := cS) h n 0 hn
  rw [Nat.zero_add] at e
  exact e.symm
/-- what is the same at two turns -/
structure Pk (cR cS : List (List (Int × Int))) (op : List Int) (s t : Nat) : Prop where
  a : (pcf cR cS op (s + 1)).1 = (pcf cR cS op (t + 1)).1
  b : (pcf cR cS op s).2.1 = (pcf cR cS op t).2.1
  w : (pcf cR cS op s).2.2 = (pcf cR cS op t).2.2
  y : pY cR cS op s = pY cR cS op t
theorem pk_of {s t : Nat} (h : pcf cR cS op s = pcf cR cS op t) : Pk cR cS op s t := by
  refine ⟨?_, by rw [h], by rw [h], by unfold pY; rw [h]⟩
  show (pst cR cS _).1 = (pst cR cS _).1
  rw [h]
theorem pk_next {s t : Nat} (h : Pk cR cS op s t) : pcf cR cS op (s + 1) = pcf cR cS op (t + 1) := by
  have hy : pYc cR (pcf cR cS op s) = pYc cR (pcf cR cS op t) := h.y
  have e1 : (pcf cR cS op (s + 1)).2 = (pcf cR cS op (t + 1)).2 := by
    show ((cel cS (pcf cR cS op s).2.1 (pYc cR (pcf cR cS op s))).1, (pcf cR cS op s).2.2.drop 1 ++ [(cel cS (pcf cR cS op s).2.1 (pYc cR (pcf cR cS op s))).2]) = ((cel cS (pcf cR cS op t).2.1 (pYc cR (pcf cR cS op t))).1, (pcf cR cS op t).2.2.drop 1 ++ [(cel cS (pcf cR cS op t).2.1 (pYc cR (pcf cR cS op t))).2])
    rw [h.b, h.w, hy]
  exact Prod.ext h.a e1
theorem pk_add {s t : Nat} (h : Pk cR cS op s t) : ∀ k, Pk cR cS op (s + k) (t + k)
  | 0 => h
  | k + 1 => pk_of (pk_next (pk_add h k))
theorem pk_x {s t : Nat} (h : Pk cR cS op s t) : pX cR cS op s = pX cR cS op t := by unfold pX; rw [h.w]
/-- the play goes round from s on -/
theorem pk_per {s t : Nat} (hst : s < t) (h : Pk cR cS op s t) (n : Nat) (hn : s ≤ n) : pX cR cS op (n + (t - s)) = pX cR cS op n ∧ pY cR cS op (n + (t - s)) = pY cR cS op n := by
  have := pk_add h (n - s)
  rw [show s + (n - s) = n by omega, show t + (n - s) = n + (t - s) by omega] at this
  exact ⟨(pk_x this).symm, this.y.symm⟩
/-- all stays within bounds -/
structure Pin (I : Int) (n m : Nat) (l : Nat) (p : Pc) : Prop where
  a : 0 ≤ p.1 ∧ p.1 < (n : Int)
  b : 0 ≤ p.2.1 ∧ p.2.1 < (m : Int)
  w : ∀ z ∈ p.2.2, 0 ≤ z ∧ z < I
  l : p.2.2.length = l
def penc : List Int → Nat
  | [] => 0
  | z :: zs => z.toNat + 3 * penc zs
theorem penc_lt : ∀ {l : List Int}, (∀ z ∈ l, 0 ≤ z ∧ z < 3) → penc l < 3 ^ l.length
  | [], _ => by decide
  | z :: zs, h => by
    have ih := penc_lt (l := zs) fun y hy => h y (List.mem_cons_of_mem _ hy)
    have hz := h z List.mem_cons_self
    show z.toNat + 3 * penc zs < 3 ^ (zs.length + 1)
    rw [Nat.pow_succ]
    omega
theorem penc_inj : ∀ {l m : List Int}, l.length = m.length → (∀ z ∈ l, 0 ≤ z ∧ z < 3) → (∀ z ∈ m, 0 ≤ z ∧ z < 3) → penc l = penc m → l = m
  | [], [], _, _, _, _ => rfl
  | y :: ys, z :: zs, h, h1, h2, e => by
    have a1 := h1 y List.mem_cons_self
    have a2 := h2 z List.mem_cons_self
    have e : y.toNat + 3 * penc ys = z.toNat + 3 * penc zs := e
    have e1 : y = z := by omega
    have e2 := penc_inj (Nat.succ.inj h) (fun x hx => h1 x (List.mem_cons_of_mem _ hx)) (fun x hx => h2 x (List.mem_cons_of_mem _ hx)) (by omega)
    rw [e1, e2]
theorem pin_cnt {I : Int} {n m l : Nat} (hI : I ≤ 3) (hn : n ≤ 4) (hm : m ≤ 4) (hl : l ≤ 3) {f : Nat → Pc} {i : Nat} (hf : ∀ j, j < i → Pin I n m l (f j)) (hd : ∀ j k, j < k → k < i → f j ≠ f k) : i ≤ 432 := by
  have W : ∀ j, j < i → ∀ z ∈ (f j).2.2, 0 ≤ z ∧ z < 3 := fun j hj z hz => by have := (hf j hj).w z hz; omega
  have hb : ∀ j, j < i → penc (f j).2.2 < 27 := fun j hj => by
    have := penc_lt (W j hj)
    rw [(hf j hj).l] at this
    have h3 : 3 ^ l ≤ 3 ^ 3 := Nat.pow_le_pow_right (by omega) hl
    omega
  refine distinct_le 432 i (fun j => ((f j).1.toNat * 4 + (f j).2.1.toNat) * 27 + penc (f j).2.2) (fun j hj => ?_) (fun j k h1 h2 e => ?_)
  · have := hf j hj
    have a := this.a
    have b := this.b
    have := hb j hj
    show _ * 27 + _ < _
    omega
  · have p1 := hf j (by omega)
    have p2 := hf k h2
    have a1 := p1.a
    have b1 := p1.b
    have a2 := p2.a
    have b2 := p2.b
    have c1 := hb j (by omega)
    have c2 := hb k h2
    have e : ((f j).1.toNat * 4 + (f j).2.1.toNat) * 27 + penc (f j).2.2 = ((f k).1.toNat * 4 + (f k).2.1.toNat) * 27 + penc (f k).2.2 := e
    refine hd j k h1 h2 (Prod.ext (by omega) (Prod.ext (by omega) (penc_inj (by rw [p1.l, p2.l]) (W j (by omega)) (W k h2) (by omega))))
theorem lw_mem {l : List Int} {i : Nat} (h : i < l.length) : lw l i ∈ l := List.mem_of_getElem? (lw_get h)
theorem pin_next {I O : Int} {l : Nat} (hR : Wc I cR) (hS : Wc O cS) (hRl : ∀ r ∈ cR, ∀ p ∈ r, 0 ≤ p.2 ∧ p.2 < O) (hSl : ∀ r ∈ cS, ∀ p ∈ r, 0 ≤ p.2 ∧ p.2 < I) (l0 : 0 < l) {p : Pc} (h : Pin I cR.length cS.length l p) : Pin I cR.length cS.length l (pst cR cS p) ∧ 0 ≤ pYc cR p ∧ pYc cR p < O := by
  have hw := h.w _ (lw_mem (l := p.2.2) (i := p.2.2.length - 1) (by have := h.l; omega))
  obtain ⟨row, r1, r2, r3, r4⟩ := cel_get hR h.a.1 h.a.2 hw.1 hw.2
  have y := hRl _ (List.mem_of_getElem? r1) _ (List.mem_of_getElem? r2)
  have y : 0 ≤ pYc cR p ∧ pYc cR p < O := y
  obtain ⟨row2, q1, q2, q3, q4⟩ := cel_get hS h.b.1 h.b.2 y.1 y.2
  have z := hSl _ (List.mem_of_getElem? q1) _ (List.mem_of_getElem? q2)
  refine ⟨⟨⟨r3, r4⟩, ⟨q3, q4⟩, fun x hx => ?_, ?_⟩, y⟩
  · rcases List.mem_append.mp hx with u | u
    · exact h.w x (List.mem_of_mem_drop u)
    · rw [List.mem_singleton.mp u]; exact z
  · show (p.2.2.drop 1 ++ [_]).length = l
    rw [List.length_append, List.length_drop, h.l]
    show l - 1 + 1 = l
    omega
end
/-! keys that are tuples, told by ky -/
section
variable {α : Type}
/-- how a node is a key -/
structure Ky (ky : α → NestedKey) : Prop where
  inj : ∀ a b, ky a = ky b → a = b
  dep : ∀ a, (ky a).depth ≤ 8
/-- the addresses of the nodes -/
def KA (K : PySem.W.Frag) (ky : α → NestedKey) (H : Hp) (as : List Addr) (ks : List α) : Prop := as.length = ks.length ∧ ∀ (i : Nat) (a : Addr), as[i]? = some a → ∃ k, ks[i]? = some k ∧ Dn2.NkV K H (ky k) (.ref a)
theorem KA.same {ky : α → NestedKey} {H H' : Hp} {as : List Addr} {ks : List α} (s : ∀ b xs, H b = some (.tup xs) → H' b = some (.tup xs)) (h : KA K ky H as ks) : KA K ky H' as ks := ⟨h.1, fun i a e => by
  obtain ⟨k, h1, h2⟩ := h.2 i a e
  exact ⟨k, h1, Dn2.NkV.same s _ _ h2⟩⟩
theorem KA.snoc {ky : α → NestedKey} {H : Hp} {as : List Addr} {ks : List α} {a : Addr} {k : α} (h : KA K ky H as ks) (e : Dn2.NkV K H (ky k) (.ref a)) : KA K ky H (as ++ [a]) (ks ++ [k]) := by
  refine ⟨by rw [List.length_append, List.length_append, h.1]; rfl, fun i x hx => ?_⟩
  rcases snocg hx with ⟨_, y⟩ | ⟨y1, y2⟩
  · obtain ⟨k', h1, h2⟩ := h.2 i x y
    exact ⟨k', by rw [List.getElem?_append_left (lt_of_get h1)]; exact h1, h2⟩
  · subst y2
    exact ⟨k, by rw [List.getElem?_append_right (by rw [y1, h.1]; exact Nat.le_refl _), y1, h.1, Nat.sub_self]; rfl, e⟩
/-- the entries node ↦ number -/
def entN (ky : α → NestedKey) : List Addr → List α → Nat → List Dn2.Ent
  | a :: as, u :: us, i => (ky u, a, VN i) :: entN ky as us (i + 1)
  | _, _, _ => []
theorem entN_len {ky : α → NestedKey} : ∀ {as : List Addr} {us : List α} {i : Nat}, as.length = us.length → (entN ky as us i).length = us.length
  | [], [], _, _ => rfl
  | a :: as, u :: us, i, h => by
    show (entN ky as us (i + 1)).length + 1 = us.length + 1
    rw [entN_len (Nat.succ.inj h)]
theorem entN_snoc {ky : α → NestedKey} {a : Addr} {u : α} : ∀ {as : List Addr} {us : List α} {i : Nat}, as.length = us.length → entN ky (as ++ [a]) (us ++ [u]) i = entN ky as us i ++ [(ky u, a, VN (i + us.length))]
  | [], [], _, _ => rfl
  | b :: as, v :: us, i, h => by
    show (ky v, b, VN i) :: entN ky (as ++ [a]) (us ++ [u]) (i + 1) = (ky v, b, VN i) :: (entN ky as us (i + 1) ++ _)
    rw [entN_snoc (Nat.succ.inj h), List.length_cons, show i + 1 + us.length = i + (us.length + 1) by omega]
theorem entN_val [BEq α] [LawfulBEq α] {ky : α → NestedKey} (kk : Ky ky) (z : α) : ∀ {as : List Addr} {us : List α} {i : Nat}, as.length = us.length → Dn2.valN (entN ky as us i) (ky z) = if z ∈ us then some (VN (us.idxOf z + i)) else none
  | [], [], _, _ => by rw [if_neg List.not_mem_nil]; rfl
  | a :: as, u :: us, i, h => by
    have ih := entN_val kk z (as := as) (us := us) (i := i + 1) (Nat.succ.inj h)
    unfold Dn2.valN at ih ⊢
    rw [show entN ky (a :: as) (u :: us) i = (ky u, a, VN i) :: entN ky as us (i + 1) from rfl, List.find?_cons]
    by_cases e : u = z
    · subst e
      rw [decide_eq_true (show ky u = ky u from rfl), if_pos List.mem_cons_self, List.idxOf_cons_self, Nat.zero_add]
      rfl
    · rw [decide_eq_false (by intro h; exact e (kk.inj _ _ h)), ih]
      have hiff : z ∈ u :: us ↔ z ∈ us := by simp [show z ≠ u from fun h => e h.symm]
      simp only [hiff]
      split
      · rw [List.idxOf_cons, show (u == z) = false by simpa using e]
        show some (VN (us.idxOf z + (i + 1))) = some (VN (us.idxOf z + 1 + i))
        rw [show us.idxOf z + (i + 1) = us.idxOf z + 1 + i by omega]
      · rfl
theorem entN_put [BEq α] [LawfulBEq α] {ky : α → NestedKey} (kk : Ky ky) {as : List Addr} {us : List α} {a : Addr} {u : α} (h : as.length = us.length) (hu : u ∉ us) : Dn2.putN (entN ky as us 0) (ky u) a (VN us.length) = entN ky (as ++ [a]) (us ++ [u]) 0 := by
  rw [Dn2.putN_new (by rw [entN_val kk u h, if_neg hu]), entN_snoc h, Nat.zero_add]
theorem dn_ext {P : Program} {w : World} {K : PySem.W.Frag} {H : Hp} {d : Addr} {kvs : List Dn2.Ent} (h : Dn2.DN P w K H d kvs) : ∃ φ, H d = some (.ext φ) := by
  obtain ⟨⟨xs, e, _⟩, _⟩ := h
  exact ⟨_, e⟩
theorem dn_get [BEq α] [LawfulBEq α] {P : Program} {w : World} {K : PySem.W.Frag} {ky : α → NestedKey} {H : Hp} {d a : Addr} {na : List Addr} {ns : List α} {k : α} (kk : Ky ky) (h : Dn2.DN P w K H d (entN ky na ns 0)) (hl : na.length = ns.length) (e : Dn2.NkV K H (ky k) (.ref a)) : Dn2.DGN P w K H d (.ref a) (if k ∈ ns then some (VN (ns.idxOf k)) else none) :=
  ⟨_, ky k, a, h, rfl, e, kk.dep k, by rw [entN_val kk k hl, Nat.add_zero]⟩
end
def kyI (u : List Int) : NestedKey := .tup (u.map .num)
theorem nka_ints {H : Hp} : ∀ {u : List Int} {vs : List V}, Dn2.NkA K H (u.map .num) vs ↔ vs = u.map V.int
  | [], vs => by rw [List.map_nil, Dn2.NkA]; rfl
  | i :: u, vs => by
    rw [List.map_cons, Dn2.NkA]
    constructor
    · rintro ⟨v, vs', rfl, h1, h2⟩
      rw [Dn2.NkV] at h1
      rw [h1, nka_ints.mp h2]; rfl
    · intro h
      exact ⟨V.int i, u.map V.int, h, by rw [Dn2.NkV], nka_ints.mpr rfl⟩
theorem nk_iff {H : Hp} {u : List Int} {a : Addr} : Dn2.NkV K H (kyI u) (.ref a) ↔ Dn2.TupK K H a (u.map V.int) := by
  unfold kyI
  rw [Dn2.NkV]
  constructor
  · rintro ⟨a', vs, e, h1, h2⟩
    cases e
    rwa [nka_ints.mp h2] at h1
  · intro h
    exact ⟨a, _, rfl, h, nka_ints.mpr rfl⟩
theorem kyI_ky : Ky kyI := by
  refine ⟨fun a b h => ?_, fun a => ?_⟩
  · have := NestedKey.tup.inj h
    exact (List.map_inj_right (fun x y e => NestedKey.num.inj e)).mp this
  · unfold kyI
    rw [NestedKey.depth]
    have : ∀ u : List Int, NestedKey.depthAll (u.map .num) = 0 := fun u => by
      induction u with
      | nil => rw [List.map_nil, NestedKey.depthAll]
      | cons i u ih => rw [List.map_cons, NestedKey.depthAll, ih, NestedKey.depth]; rfl
    rw [this]
    decide
def kyP (p : Pc) : NestedKey := .tup [.num p.1, .num p.2.1, kyI p.2.2]
theorem kyI_dep1 : ∀ u : List Int, NestedKey.depthAll (u.map .num) = 0
  | [] => by rw [List.map_nil, NestedKey.depthAll]
  | i :: u => by rw [List.map_cons, NestedKey.depthAll, kyI_dep1 u, NestedKey.depth]; rfl
theorem kyI_dep (u : List Int) : (kyI u).depth = 1 := by
  unfold kyI
  rw [NestedKey.depth, kyI_dep1]
theorem kyI_inj {u v : List Int} (h : kyI u = kyI v) : u = v := kyI_ky.inj _ _ h
theorem kyP_ky : Ky kyP := by
  refine ⟨fun a b h => ?_, fun a => ?_⟩
  · have h := NestedKey.tup.inj h
    injection h with h1 h2
    injection h2 with h2 h3
    injection h3 with h3 _
    exact Prod.ext (NestedKey.num.inj h1) (Prod.ext (NestedKey.num.inj h2) (kyI_inj h3))
  · unfold kyP
    rw [NestedKey.depth, NestedKey.depthAll, NestedKey.depthAll, NestedKey.depthAll, NestedKey.depthAll, kyI_dep, NestedKey.depth, NestedKey.depth]
    decide
theorem nk_p {H : Hp} {N q : Addr} {a b : Int} {w : List Int} (h1 : H N = some (.tup [.int a, .int b, .ref q])) (h2 : H q = some (.tup (w.map V.int))) : Dn2.NkV K H (kyP (a, b, w)) (.ref N) := by
  unfold kyP
  rw [Dn2.NkV]
  refine ⟨N, _, rfl, .inl h1, ?_⟩
  rw [Dn2.NkA]
  refine ⟨_, _, rfl, by rw [Dn2.NkV], ?_⟩
  rw [Dn2.NkA]
  refine ⟨_, _, rfl, by rw [Dn2.NkV], ?_⟩
  rw [Dn2.NkA]
  refine ⟨_, _, rfl, nk_iff.mpr (.inl h2), ?_⟩
  rw [Dn2.NkA]
/-- one entry of a machine -/
theorem mch_cell {C : Addr} {H : Hp} {x : Addr} {I O L s z : Int} {op : List Int} {c : List (List (Int × Int))} (h : MchAt C H x I O L op c) (hW : Wc I c) (s0 : 0 ≤ s) (s1 : s < (c.length : Int)) (z0 : 0 ≤ z) (z1 : z < I) :
    ∃ (dx ot rt ra b : Addr) (as bs : List Addr), H x = some (.ins C dx (mf I O L ot rt)) ∧ H rt = some (.tup (as.map V.ref)) ∧ atI (as.map V.ref) s = some (.ref ra) ∧ H ra = some (.tup (bs.map V.ref)) ∧ atI (bs.map V.ref) z = some (.ref b) ∧ H b = some (.tup [.int (cel c s z).1, .int (cel c s z).2]) := by
  obtain ⟨dx, ot, rt, as, e1, e2, e3, e4⟩ := h
  obtain ⟨row, hrow, hcel, _, _⟩ := cel_get hW s0 s1 z0 z1
  obtain ⟨ra, hra⟩ : ∃ ra, as[s.toNat]? = some ra := ⟨_, List.getElem?_eq_getElem (by have := e4.len; omega)⟩
  obtain ⟨bs, row2, h2, h3, h4, h5⟩ := e4.g _ ra hra
  rw [hrow] at h2
  cases h2
  have hzl := (List.getElem?_eq_some_iff.mp hcel).1
  obtain ⟨b, hb⟩ : ∃ b, bs[z.toNat]? = some b := ⟨_, List.getElem?_eq_getElem (by omega)⟩
  obtain ⟨t, l, h6, h7⟩ := h5 _ b hb
  rw [hcel] at h6
  have ec := Option.some.inj h6
  refine ⟨dx, ot, rt, ra, b, as, bs, e1, e3, ?_, h3, ?_, by rw [ec]; exact h7⟩
  · rw [show s = ((s.toNat : Nat) : Int) by omega]
    exact atI_nat (by rw [List.getElem?_map, hra]; rfl)
  · rw [show z = ((z.toNat : Nat) : Int) by omega]
    exact atI_nat (by rw [List.getElem?_map, hb]; rfl)
/-- a list of pairs -/
def PrL (H : Hp) (a : Addr) (f g : Nat → Int) (n : Nat) : Prop := ∃ as : List Addr, H a = some (.lst (as.map V.ref)) ∧ as.length = n ∧ ∀ i b, as[i]? = some b → H b = some (.tup [.int (f i), .int (g i)])
theorem idx_map {α : Type} [BEq α] [LawfulBEq α] {f : Nat → α} {x : α} {i : Nat} (h : x ∈ (List.range i).map f) : ((List.range i).map f).idxOf x < i ∧ f (((List.range i).map f).idxOf x) = x := by
  have h1 := List.idxOf_lt_length_iff.mpr h
  have h2 := List.getElem_idxOf h1
  rw [List.length_map, List.length_range] at h1
  rw [List.getElem_map, List.getElem_range] at h2
  exact ⟨h1, h2⟩
def spExch (C : Addr) : Sp := fun vs H Q _ => ∃ (x y : Addr) (I O L1 L2 : Int) (op1 op : List Int) (c1 c2 : List (List (Int × Int))), vs = [.ref x, .ref y] ∧ MchAt C H x I O L1 op1 c1 ∧ Vm I O L1 op1 c1 ∧ MchAt C H y O I L2 op c2 ∧ Vm O I L2 op c2 ∧ op ≠ [] ∧ I ≤ 3 ∧ c1.length ≤ 4 ∧ c2.length ≤ 4 ∧
  ∀ (H' : Hp) (t pl : Addr) (i j : Nat), Same H H' → H' t = some (.tup [.ref pl, VN j]) → PrL H' pl (pY c1 c2 op) (pX c1 c2 op) i → j < i → i ≤ 432 → pcf c1 c2 op i = pcf c1 c2 op j → Q (.ref t) H'
theorem cal_exch {C : Addr} (T : Txt K mg) (PC : MchC K C) : C8.Cal P w K mg base 1 "exchange" (spExch C) [] := by
  obtain ⟨f, fd, F, hm, hb⟩ := T.h_exchange
  refine ⟨f, fd, _, [], F.ok sc_exchange (fun vs H Q E h => ?_) (fun cdv A outer s H vs Q E hr h => ?_), hm, F.kp, hb, .nil⟩
  · obtain ⟨x, y, I, O, L1, L2, op1, op, c1, c2, rfl, _⟩ := h
    rfl
  · obtain ⟨x, y, I, O, L1, L2, op1, op, c1, c2, rfl, hA, hV, hB, hU, hop, hI, hc1, hc2, q⟩ := h
    have hW1 : Wc I c1 := ⟨hV.w, hV.st⟩
    have hW2 : Wc O c2 := ⟨hU.w, hU.st⟩
    have hopp := List.length_pos_iff.mpr hop
    have hop3 : op.length ≤ 3 := by have := hU.op_len; have := hU.l0; omega
    have n1 : 0 < c1.length := List.length_pos_iff.mpr hV.ne
    have n2 : 0 < c2.length := List.length_pos_iff.mpr hU.ne
    refine ⟨_, (pss_cons
      (ps_set (i := 2) sc_exchange.nd rfl (Or.inl rfl) (pe_callTy (call_list_ofK (K := K) rfl) (by rfl) T.z_list (by decide +kernel) (pa_cons (pe_fld (pv 1) rfl) pa_nil)))
      (pss_cons
      (ps_set (i := 3) sc_exchange.nd rfl (Or.inl rfl) pe_int)
      (pss_cons
      (ps_for PassesOwn.never rfl (pi_list (pe_slice (sl_listK (K := K) rfl) (pv 2) po_none (po_some (pe_un un_neg pe_int)))) (pg_name (i := 4) sc_exchange.nd rfl (.inl rfl)) (pss_one
      (ps_asg (pe_ix (ix_tupK (K := K) rfl) (pe_ix (ix_tupK (K := K) rfl) (pe_fld (pv 0) rfl) (pv 3) (fun _ _ => rfl)) (pv 4) (fun _ _ => rfl)) (pg_tup (by rfl) (pgs_cons (pg_name (i := 3) sc_exchange.nd rfl (.inl rfl)) (pgs_cons (pg_name (i := 5) sc_exchange.nd rfl (.inl rfl)) pgs_nil))))))
      (pss_cons
      (ps_set (i := 6) sc_exchange.nd rfl (Or.inl rfl) pe_int)
      (pss_cons
      (ps_set (i := 7) sc_exchange.nd rfl (Or.inl rfl) (Dn2.pe_dnewN (P := P) (w := w) rfl rfl))
      (pss_cons
      (ps_set (i := 8) sc_exchange.nd rfl (Or.inl rfl) (pe_lst pa_nil))
      (pss_cons
      (ps_set (i := 9) sc_exchange.nd rfl (Or.inl rfl) (pe_tup (pa_cons (pv 3) (pa_cons (pv 6) (pa_cons (pe_callTy (call_tuple_ofK (K := K) rfl) (by rfl) T.z_tuple (by decide +kernel) (pa_cons (pv 2) pa_nil)) pa_nil)))))
      (C8.pss_cut
      (ps_while PassesOwn.never (pt_cmp (Dn2.pc_dnotinN (P := P) (w := w) (K := K) rfl rfl rfl (Dn2.units65 hr) (pv 9) (pv 7))) (pss_cons
      (Dn2.ps_dputN (P := P) (w := w) (K := K) rfl rfl rfl (Dn2.units65 hr) (pv 7) (pv 9) (pe_callB (call_lenK (K := K) rfl) (by rfl) T.z_len PySem.boot_len (pa_cons (pv 8) pa_nil)) rfl)
      (pss_cons
      (ps_asg (pe_ix (ix_tupK (K := K) rfl) (pe_ix (ix_tupK (K := K) rfl) (pe_fld (pv 0) rfl) (pv 3) (fun _ _ => rfl)) (pe_ix (ix_listK (K := K) rfl) (pv 2) (pe_un un_neg pe_int) (fun _ _ => rfl)) (fun _ _ => rfl)) (pg_tup (by rfl) (pgs_cons (pg_name (i := 3) sc_exchange.nd rfl (.inl rfl)) (pgs_cons (pg_name (i := 10) sc_exchange.nd rfl (.inl rfl)) pgs_nil))))
      (pss_cons
      (ps_expr (pe_bm PySem.F.plainAttrs_list PySem.F.slot_list_append PySem.F.type_list_append mt_append (pv 8) (pa_cons (pe_tup (pa_cons (pv 10) (pa_cons (pe_ix (ix_listK (K := K) rfl) (pv 2) pe_int (fun _ _ => rfl)) pa_nil))) pa_nil)))
      (pss_cons
      (ps_asg (pe_ix (ix_tupK (K := K) rfl) (pe_ix (ix_tupK (K := K) rfl) (pe_fld (pv 1) rfl) (pv 6) (fun _ _ => rfl)) (pv 10) (fun _ _ => rfl)) (pg_tup (by rfl) (pgs_cons (pg_name (i := 6) sc_exchange.nd rfl (.inl rfl)) (pgs_cons (pg_name (i := 11) sc_exchange.nd rfl (.inl rfl)) pgs_nil))))
      (pss_cons
      (ps_set (i := 2) sc_exchange.nd rfl (Or.inl rfl) (pe_op op_cat (pe_slice (sl_listK (K := K) rfl) (pv 2) (po_some pe_int) po_none) (pe_lst (pa_cons (pv 11) pa_nil))))
      (pss_one
      (ps_set (i := 9) sc_exchange.nd rfl (Or.inl rfl) (pe_tup (pa_cons (pv 3) (pa_cons (pv 6) (pa_cons (pe_callTy (call_tuple_ofK (K := K) rfl) (by rfl) T.z_tuple (by decide +kernel) (pa_cons (pv 2) pa_nil)) pa_nil))))))))))))
      (pss_one
      (ps_ret (pe_tup (pa_cons (pv 8) (pa_cons (Dn2.pe_dgetN (P := P) (w := w) (K := K) rfl rfl rfl (Dn2.units65 hr) (pv 7) (pv 9) (fun _ _ => rfl)) pa_nil))))))))))))), ?_⟩
    obtain ⟨dy, oy, ry, ys, e1, e2, e3, e4⟩ := id hB
    refine ⟨_, rfl, y, C, dy, _, _, rfl, e1, PC.cl, PC.no, mf_o _ _ _ _ _, oy, _, rfl, .inr (.of e2), fun W0 nW0 => ?_⟩
    have s1 := same_new (o := .lst (op.map V.int)) nW0
    have eW := upd_same (H := H) (a := W0) (o := .lst (op.map V.int))
    generalize upd H W0 (.lst (op.map V.int)) = H1 at s1 eW ⊢
    refine ⟨_, rfl, ?_⟩
    refine ⟨_, rfl, _, rfl, W0, _, rfl, .of eW, fun W1 nW1 => ?_⟩
    have ecut : cutV (op.map V.int) none (some (-1)) = op.dropLast.map V.int := by
      unfold cutV
      rw [HT.sIx_none, List.drop_zero, Nat.sub_zero]
      show List.take ((-1 + ((op.map V.int).length : Int)).toNat) _ = _
      rw [List.length_map, show (-1 + (op.length : Int)).toNat = op.length - 1 by omega, List.dropLast_eq_take, List.map_take]
    rw [ecut]
    have s2 := same_new (o := .lst (op.dropLast.map V.int)) nW1
    have eW1 := upd_same (H := H1) (a := W1) (o := .lst (op.dropLast.map V.int))
    generalize upd H1 W1 (.lst (op.dropLast.map V.int)) = H2 at s2 eW1 ⊢
    have s02 := s1.trans s2
    have hdl : ∀ z ∈ op.dropLast, 0 ≤ z ∧ z < I := fun z hz => hU.op_in z (by rw [List.dropLast_eq_take] at hz; exact List.mem_of_mem_take hz)
    refine ⟨W1, rfl, ⟨_, .of eW1⟩, for_list (K := K) (a := W1) (xs := op.dropLast.map V.int) (fun i σ H' => ∃ v4 v5 : Option V, σ = [some (.ref x), some (.ref y), some (.ref W0), some (.int (rst c1 0 (op.dropLast.take i))), v4, v5, none, none, none, none, none, none] ∧ H2 = H')
      ⟨_, _, rfl, rfl⟩ (fun i σ H' _ ⟨_, _, _, z⟩ => by rw [← z]; exact .of eW1) ?_ ?_⟩
    · rintro i v σ H' hi ⟨v4, v5, rfl, rfl⟩
      obtain ⟨z, hz, rfl⟩ := ints_get hi
      obtain ⟨z0, z1⟩ := hdl z (List.mem_of_getElem? hz)
      obtain ⟨r0, r1⟩ := rst_in hW1 (op.dropLast.take i) 0 (Int.le_refl 0) (by omega) fun y hy => hdl y (List.mem_of_mem_take hy)
      obtain ⟨dx, ot, rt, ra, b, as, bs, g1, g2, g3, g4, g5, g6⟩ := mch_cell (mch_same s02 hA) hW1 r0 r1 z0 z1
      refine ⟨_, rfl, x, C, dx, _, _, rfl, g1, PC.cl, PC.nr, mf_r _ _ _ _ _, _, rfl, rt, _, _, .ref ra, rfl, rfl, .of g2, g3, _, rfl, ra, _, _, .ref b, rfl, rfl, .of g4, g5, b, _, rfl, .of g6, rfl, _, _, rfl, _, _, rfl, rfl, ?_⟩
      refine ⟨some (.int z), some (.int (cel c1 (rst c1 0 (op.dropLast.take i)) z).2), ?_, rfl⟩
      rw [take_get hz, rst_snoc]
      rfl
    rintro σ H' ⟨v4, v5, rfl, rfl⟩
    rw [List.length_map, List.take_length]
    refine fun d nd => ?_
    have ed : Dn2.DN P w K (upd H2 d (Dn2.DNO P w d [])) d [] := Dn2.dn_nil d H2
    have s3 : Same H2 (upd H2 d (Dn2.DNO P w d [])) := same_new nd
    generalize upd H2 d (Dn2.DNO P w d []) = H3 at ed s3 ⊢
    refine ⟨Nat.zero_le _, fun PL nPL => ?_⟩
    have s4 := same_new (o := .lst []) nPL
    have ePL := upd_same (H := H3) (a := PL) (o := .lst [])
    generalize upd H3 PL (.lst []) = H4 at s4 ePL ⊢
    have eW4 := s4 _ _ (s3 _ _ (s2 _ _ eW))
    refine ⟨_, rfl, _, rfl, _, rfl, W0, _, rfl, .inl ⟨.of eW4, fun q0 nq0 => ?_⟩⟩
    have s5 := same_new (o := .tup (op.map V.int)) nq0
    have eq0 := upd_same (H := H4) (a := q0) (o := .tup (op.map V.int))
    generalize upd H4 q0 (.tup (op.map V.int)) = H5 at s5 eq0 ⊢
    refine ⟨by show 3 ≤ sizeLine; decide, fun N0 nN0 => ?_⟩
    have s6 := same_new (o := .tup [.int (rst c1 0 op.dropLast), .int 0, .ref q0]) nN0
    have eN0 := upd_same (H := H5) (a := N0) (o := .tup [.int (rst c1 0 op.dropLast), .int 0, .ref q0])
    have ek0 : Dn2.NkV K (upd H5 N0 (.tup [.int (rst c1 0 op.dropLast), .int 0, .ref q0])) (kyP (pcf c1 c2 op 0)) (.ref N0) := nk_p eN0 (s6 _ _ eq0)
    generalize upd H5 N0 (.tup [.int (rst c1 0 op.dropLast), .int 0, .ref q0]) = H6 at s6 ek0 ⊢
    have nW0PL : W0 ≠ PL := fun z => by have h := s3 _ _ (s2 _ _ eW); rw [z, nPL] at h; cases h
    have s36 := s4.trans (s5.trans s6)
    have nd0 : H d = none := s02.free nd
    have nPL0 : H PL = none := (s02.trans s3).free nPL
    have ndPL : PL ≠ d := fun z => by obtain ⟨φ, h⟩ := dn_ext ed; rw [← z, nPL] at h; cases h
    have hpin : ∀ i, Pin I c1.length c2.length op.length (pcf c1 c2 op i) := fun i => by
      induction i with
      | zero => exact ⟨rst_in hW1 op.dropLast 0 (Int.le_refl 0) (by omega) hdl, ⟨Int.le_refl 0, by show (0 : Int) < _; omega⟩, hU.op_in, rfl⟩
      | succ i ih => exact (pin_next hW1 hW2 hV.em hU.em hopp ih).1
    have cnt : ∀ i, (∀ j k, j < k → k < i → pcf c1 c2 op j ≠ pcf c1 c2 op k) → i ≤ 432 := fun i hd => pin_cnt hI hc1 hc2 hop3 (fun j _ => hpin j) hd
    refine ⟨fun σ H' => ∃ (i j : Nat) (na : List Addr) (W N : Addr) (v3 v4 v5 v6 v10 v11 : Option V), σ = [some (.ref x), some (.ref y), some (.ref W), v3, v4, v5, v6, some (.ref d), some (.ref PL), some (.ref N), v10, v11] ∧ Same H H' ∧ Dn2.DGN P w K H' d (.ref N) (some (VN j)) ∧ PrL H' PL (pY c1 c2 op) (pX c1 c2 op) i ∧ j < i ∧ i ≤ 432 ∧ pcf c1 c2 op i = pcf c1 c2 op j, ?_, ?_⟩
    · refine ⟨fun m σ H' => ∃ (i : Nat) (na : List Addr) (W N : Addr) (v4 v5 v10 v11 : Option V), m = 433 - i ∧ σ = [some (.ref x), some (.ref y), some (.ref W), some (.int (pcf c1 c2 op i).1), v4, v5, some (.int (pcf c1 c2 op i).2.1), some (.ref d), some (.ref PL), some (.ref N), v10, v11] ∧ W ≠ PL ∧ Same H H' ∧ H' W = some (.lst ((pcf c1 c2 op i).2.2.map V.int)) ∧ Dn2.NkV K H' (kyP (pcf c1 c2 op i)) (.ref N) ∧
          Dn2.DN P w K H' d (entN kyP na ((List.range i).map (pcf c1 c2 op)) 0) ∧ na.length = i ∧ PrL H' PL (pY c1 c2 op) (pX c1 c2 op) i ∧ ∀ j k, j < k → k < i → pcf c1 c2 op j ≠ pcf c1 c2 op k,
        ⟨433, 0, [], W0, N0, v4, v5, none, none, rfl, rfl, nW0PL, s02.trans (s3.trans s36), s6 _ _ (s5 _ _ eW4), ek0, ed.same s36, rfl, ⟨[], s6 _ _ (s5 _ _ ePL), rfl, fun i b h => by (cases h)⟩, fun j k _ h => absurd h (Nat.not_lt_zero _)⟩, ?_⟩
      rintro m σ H7 ⟨i, na, W, N, v4, v5, v10, v11, rfl, rfl, nWP, s7, eW7, ek7, ed7, hna, ⟨as, eP7, hal, hP7⟩, hdis⟩
      have hi := cnt i hdis
      have hnl : na.length = ((List.range i).map (pcf c1 c2 op)).length := by rw [List.length_map, List.length_range, hna]
      refine ⟨_, rfl, _, rfl, d, _, rfl, dn_get kyP_ky ed7 hnl ek7, _, rfl, ?_⟩
      by_cases c : pcf c1 c2 op i ∈ (List.range i).map (pcf c1 c2 op)
      · have hg := dn_get kyP_ky ed7 hnl ek7
        rw [if_pos c] at hg ⊢
        obtain ⟨hj, hjj⟩ := idx_map c
        exact iteB_f rfl ⟨i, _, na, W, N, _, _, _, _, _, _, rfl, s7, hg, ⟨as, eP7, hal, hP7⟩, hj, hi, hjj.symm⟩
      rw [if_neg c]
      have hnew : ∀ j, j < i → pcf c1 c2 op j ≠ pcf c1 c2 op i := fun j hj z => c (List.mem_map.mpr ⟨j, List.mem_range.mpr hj, z⟩)
      have hdis' : ∀ j k, j < k → k < i + 1 → pcf c1 c2 op j ≠ pcf c1 c2 op k := fun j k h1 h2 => by
        rcases Nat.lt_or_ge k i with y | y
        · exact hdis j k h1 y
        · have : k = i := by omega
          subst this
          exact hnew j h1
      have hi' := cnt (i + 1) hdis'
      obtain ⟨hp', hy0, hy1⟩ := pin_next hW1 hW2 hV.em hU.em hopp (hpin i)
      have hpi := hpin i
      have hpl := pcf_len (cR := c1) (cS := c2) hop i
      have hrng : (List.range (i + 1)).map (pcf c1 c2 op) = (List.range i).map (pcf c1 c2 op) ++ [pcf c1 c2 op i] := by rw [List.range_succ, List.map_append]; rfl
      have hwl := hpi.w _ (lw_mem (l := (pcf c1 c2 op i).2.2) (i := (pcf c1 c2 op i).2.2.length - 1) (by omega))
      have hwne : (pcf c1 c2 op i).2.2 ≠ [] := fun z => by rw [z] at hpl; have : (0 : Nat) = op.length := hpl; omega
      have hnext : pcf c1 c2 op (i + 1) = pst c1 c2 (pcf c1 c2 op i) := rfl
      have hY : pY c1 c2 op i = pYc c1 (pcf c1 c2 op i) := rfl
      have hX : pX c1 c2 op i = lw (pcf c1 c2 op i).2.2 0 := rfl
      refine iteB_t rfl ⟨fun σ' H' => ∃ (na : List Addr) (W N : Addr) (v4 v5 v10 v11 : Option V), σ' = [some (.ref x), some (.ref y), some (.ref W), some (.int (pcf c1 c2 op (i + 1)).1), v4, v5, some (.int (pcf c1 c2 op (i + 1)).2.1), some (.ref d), some (.ref PL), some (.ref N), v10, v11] ∧ W ≠ PL ∧ Same H H' ∧ H' W = some (.lst ((pcf c1 c2 op (i + 1)).2.2.map V.int)) ∧ Dn2.NkV K H' (kyP (pcf c1 c2 op (i + 1))) (.ref N) ∧
          Dn2.DN P w K H' d (entN kyP na ((List.range (i + 1)).map (pcf c1 c2 op)) 0) ∧ na.length = i + 1 ∧ PrL H' PL (pY c1 c2 op) (pX c1 c2 op) (i + 1), fun σ' H' ⟨na', W', N', v4', v5', v10', v11', a1, a2, a3, a4, a5, a6, a7, a8⟩ => ⟨433 - (i + 1), by omega, i + 1, na', W', N', v4', v5', v10', v11', rfl, a1, a2, a3, a4, a5, a6, a7, a8, hdis'⟩, ?_⟩
      rw [hnext, hrng]
      generalize pcf c1 c2 op i = p at *
      have hYi : pY c1 c2 op i = pYc c1 p := hY
      refine ⟨_, rfl, PL, _, rfl, .inl (.of eP7), _, rfl, _, rfl, d, rfl, _, kyP p, N, ed7, rfl, ek7, kyP_ky.dep _, by rw [entN_len hnl, List.length_map, List.length_range]; exact Nat.lt_of_le_of_lt (show i ≤ 1000 by omega) (by decide), fun H8 k1 _ D8 => ?_⟩
      have ndd : ∀ {b : Addr} {o : HO}, H7 b = some o → (∀ φ, o ≠ .ext φ) → b ≠ d := fun hb hn z => by
        obtain ⟨φ, h⟩ := dn_ext ed7
        rw [← z, hb] at h
        exact hn φ (Option.some.inj h)
      have t78 : ∀ b xs, H7 b = some (.tup xs) → H8 b = some (.tup xs) := fun b xs hb => by rw [k1 _ (ndd hb fun _ z => by cases z)]; exact hb
      have l78 : ∀ b xs, H7 b = some (.lst xs) → H8 b = some (.lst xs) := fun b xs hb => by rw [k1 _ (ndd hb fun _ z => by cases z)]; exact hb
      have s8 : Same H H8 := fun b o hb => by rw [k1 _ (ne_of_none hb nd0)]; exact s7 _ _ hb
      have eW8 := l78 _ _ eW7
      have eP8 := l78 _ _ eP7
      have ek8 := Dn2.NkV.same t78 _ _ ek7
      have hP8 : ∀ i b, as[i]? = some b → H8 b = some (.tup [.int (pY c1 c2 op i), .int (pX c1 c2 op i)]) := fun i b hb => t78 _ _ (hP7 i b hb)
      have evn : V.int (((as.map V.ref).length : Nat) : Int) = VN ((List.range i).map (pcf c1 c2 op)).length := by rw [List.length_map, List.length_map, List.length_range, hal]
      rw [evn, entN_put kyP_ky hnl c] at D8
      clear t78 l78 hP7 eW7 eP7 ek7 ed7 k1 ndd
      -- here, reply
      obtain ⟨dx, ot, rt, ra, b, as1, bs1, g1, g2, g3, g4, g5, g6⟩ := mch_cell (mch_same s8 hA) hW1 hpi.a.1 hpi.a.2 hwl.1 hwl.2
      refine ⟨_, rfl, x, C, dx, _, _, rfl, g1, PC.cl, PC.nr, mf_r _ _ _ _ _, _, rfl, rt, _, _, .ref ra, rfl, rfl, .of g2, g3, _, rfl, _, rfl, W, _, _, _, rfl, rfl, .of eW8, at_last hwne, ra, _, _, .ref b, rfl, rfl, .of g4, g5, b, _, rfl, .of g6, rfl, _, _, rfl, _, _, rfl, rfl, ?_⟩
      clear g1 g2 g3 g4 g5 g6
      -- pairs.append
      have hw0 : atI (p.2.2.map V.int) 0 = some (.int (lw p.2.2 0)) := atI_nat (j := 0) (at_map (by omega))
      refine ⟨_, rfl, .inl ⟨rfl, _, .of eP8⟩, _, rfl, _, rfl, W, _, _, _, rfl, rfl, .of eW8, hw0, by show 2 ≤ sizeLine; decide, fun b1 nb1 => ?_⟩
      have s9 := same_new (o := .tup [.int (cel c1 p.1 (lw p.2.2 (p.2.2.length - 1))).2, .int (lw p.2.2 0)]) nb1
      have eb9 := upd_same (H := H8) (a := b1) (o := .tup [.int (cel c1 p.1 (lw p.2.2 (p.2.2.length - 1))).2, .int (lw p.2.2 0)])
      refine ⟨PL, _, _, rfl, rfl, s9 _ _ eP8, by rw [List.length_map, hal]; exact Nat.lt_of_le_of_lt (show i ≤ 1000 by omega) (by decide), ?_⟩
      generalize upd H8 b1 (.tup [.int (cel c1 p.1 (lw p.2.2 (p.2.2.length - 1))).2, .int (lw p.2.2 0)]) = H9 at s9 eb9 ⊢
      have s89 := s8.trans s9
      have eP9 := s9 _ _ eP8
      have D9 := D8.same s9
      have ek9 := Dn2.NkV.same (fun b xs e => s9 _ _ e) _ _ ek8
      have eW9 := s9 _ _ eW8
      have hP9 : ∀ i b, (as ++ [b1])[i]? = some b → H9 b = some (.tup [.int (pY c1 c2 op i), .int (pX c1 c2 op i)]) := fun j b hb => by
        rcases snoc_get hb with ⟨_, h⟩ | ⟨h1, h2⟩
        · exact s9 _ _ (hP8 j b h)
        · rw [h2, h1, hal, hYi, hX]; exact eb9
      have tP := tup_upd (o := .lst (as.map V.ref ++ [.ref b1])) eP9
      have s10 : Same H (upd H9 PL (.lst (as.map V.ref ++ [.ref b1]))) := fun b o hb => by rw [upd_ne (ne_of_none hb nPL0)]; exact s89 _ _ hb
      have eP10 := upd_same (H := H9) (a := PL) (o := .lst (as.map V.ref ++ [.ref b1]))
      have eW10 : (upd H9 PL (.lst (as.map V.ref ++ [.ref b1]))) W = some (.lst (p.2.2.map V.int)) := by rw [upd_ne nWP]; exact eW9
      have D10 := D9.keep (H' := upd H9 PL (.lst (as.map V.ref ++ [.ref b1]))) (fun o e => by rw [upd_ne ndPL.symm]; exact e) tP
      generalize upd H9 PL (.lst (as.map V.ref ++ [.ref b1])) = H10 at tP s10 eP10 eW10 D10 ⊢
      have hP10 : ∀ i b, (as ++ [b1])[i]? = some b → H10 b = some (.tup [.int (pY c1 c2 op i), .int (pX c1 c2 op i)]) := fun j b hb => tP _ _ (hP9 j b hb)
      clear tP hP9 D9 eW9 ek9 eP9 s89 eb9 s9 hP8 ek8 eP8 eW8 s8 D8
      -- there, following
      obtain ⟨dx, ot, rt, ra, b, as2, bs2, g1, g2, g3, g4, g5, g6⟩ := mch_cell (mch_same s10 hB) hW2 hpi.b.1 hpi.b.2 hy0 hy1
      refine ⟨_, rfl, y, C, dx, _, _, rfl, g1, PC.cl, PC.nr, mf_r _ _ _ _ _, _, rfl, rt, _, _, .ref ra, rfl, rfl, .of g2, g3, _, rfl, ra, _, _, .ref b, rfl, rfl, .of g4, g5, b, _, rfl, .of g6, rfl, _, _, rfl, _, _, rfl, rfl, ?_⟩
      clear g1 g2 g3 g4 g5 g6
      -- waiting
      refine ⟨_, rfl, _, rfl, W, _, rfl, .of eW10, fun W2 nW2 => ?_⟩
      rw [show cutV (p.2.2.map V.int) (some 1) none = (p.2.2.drop 1).map V.int from (cut_drop _ 1).trans (List.map_drop ..).symm]
      have t1 := same_new (o := .lst ((p.2.2.drop 1).map V.int)) nW2
      have f1 := upd_same (H := H10) (a := W2) (o := .lst ((p.2.2.drop 1).map V.int))
      generalize upd H10 W2 (.lst ((p.2.2.drop 1).map V.int)) = H11 at t1 f1 ⊢
      refine ⟨_, rfl, by show 1 ≤ sizeLine; decide, fun W3 nW3 => ?_⟩
      have t2 := same_new (o := .lst [.int (cel c2 p.2.1 (pYc c1 p)).2]) nW3
      have f2 := upd_same (H := H11) (a := W3) (o := .lst [.int (cel c2 p.2.1 (pYc c1 p)).2])
      generalize upd H11 W3 (.lst [.int (cel c2 p.2.1 (pYc c1 p)).2]) = H12 at t2 f2 ⊢
      refine ⟨W2, W3, _, _, rfl, rfl, t2 _ _ f1, f2, by rw [List.length_map, List.length_drop]; exact Nat.le_trans (show _ ≤ 1000 by show _ + 1 ≤ _; omega) (by decide), fun W4 nW4 => ?_⟩
      have t3 := same_new (o := .lst ((p.2.2.drop 1).map V.int ++ [.int (cel c2 p.2.1 (pYc c1 p)).2])) nW4
      have f3 := upd_same (H := H12) (a := W4) (o := .lst ((p.2.2.drop 1).map V.int ++ [.int (cel c2 p.2.1 (pYc c1 p)).2]))
      generalize upd H12 W4 (.lst ((p.2.2.drop 1).map V.int ++ [.int (cel c2 p.2.1 (pYc c1 p)).2])) = H13 at t3 f3 ⊢
      have nWP4 : W4 ≠ PL := fun z => by have h := t2 _ _ (t1 _ _ eP10); rw [← z, nW4] at h; cases h
      have f3 : H13 W4 = some (.lst ((pst c1 c2 p).2.2.map V.int)) := by
        rw [f3]
        show some (HO.lst _) = some (HO.lst ((p.2.2.drop 1 ++ [(cel c2 p.2.1 (pYc c1 p)).2]).map V.int))
        rw [List.map_append]
        rfl
      have t13 := t1.trans (t2.trans t3)
      -- now
      refine ⟨_, rfl, _, rfl, _, rfl, W4, _, rfl, .inl ⟨.of f3, fun q1 nq1 => ?_⟩⟩
      have u1 := same_new (o := .tup ((pst c1 c2 p).2.2.map V.int)) nq1
      have e1' := upd_same (H := H13) (a := q1) (o := .tup ((pst c1 c2 p).2.2.map V.int))
      generalize upd H13 q1 (.tup ((pst c1 c2 p).2.2.map V.int)) = H14 at u1 e1' ⊢
      refine ⟨by show 3 ≤ sizeLine; decide, fun N2 nN2 => ?_⟩
      have u2 := same_new (o := .tup [.int (pst c1 c2 p).1, .int (pst c1 c2 p).2.1, .ref q1]) nN2
      have e2' := upd_same (H := H14) (a := N2) (o := .tup [.int (pst c1 c2 p).1, .int (pst c1 c2 p).2.1, .ref q1])
      have eu := u1.trans u2
      have et := t13.trans eu
      refine ⟨na ++ [N], W4, N2, _, _, _, _, rfl, nWP4, s10.trans et, eu _ _ f3, nk_p e2' (u2 _ _ e1'), D10.same et, by rw [List.length_append, hna]; rfl, as ++ [b1], ?_, by rw [List.length_append, hal]; rfl, fun j b hb => et _ _ (hP10 j b hb)⟩
      rw [List.map_append]
      exact et _ _ eP10
    · rintro σ H7 ⟨i, j, na, W, N, v3, v4, v5, v6, v10, v11, rfl, s7, hg, hP, hj, hi, he⟩
      refine ⟨_, rfl, _, rfl, _, rfl, d, VN j, rfl, hg, by show 2 ≤ sizeLine; decide, fun t nt => ?_⟩
      have s8 := same_new (o := .tup [.ref PL, VN j]) nt
      obtain ⟨as, p1, p2, p3⟩ := hP
      exact q _ t PL i j (s7.trans s8) upd_same ⟨as, s8 _ _ p1, p2, fun k b hb => s8 _ _ (p3 k b hb)⟩ hj hi he
/-- a field, within a comprehension's block -/
theorem pe_fldK {X : Cx} {K : PySem.W.Frag} {e : Expr} {f : Str} {pos : Pos} {ta : TE} (h : X.K = K) (he : PE X e ta) (hb : attributeBase e f X.env (eval e X.env) = eval e X.env) : PE X (.Attribute e f pos) (tFld K ta f) := by
  subst h
  exact pe_fld he hb
/-- the letters that a machine of lead L hears and says against another one -/
def plH (L : Int) (c : List (List (Int × Int))) (op : List Int) (c2 : List (List (Int × Int))) (op2 : List Int) : Nat → Int := if 0 ≤ L then pX c c2 op2 else pY c2 c op
def plS (L : Int) (c : List (List (Int × Int))) (op : List Int) (c2 : List (List (Int × Int))) (op2 : List Int) : Nat → Int := if 0 ≤ L then pY c c2 op2 else pX c2 c op
def plW (I L : Int) (c : List (List (Int × Int))) (op : List Int) (c2 : List (List (Int × Int))) (op2 : List Int) (t : Nat) : Int := plH L c op c2 op2 t + I * plS L c op c2 op2 t
theorem cut_per {f : Nat → Int} {i j : Nat} (hij : j < i) (hp : ∀ n, j ≤ n → f (n + (i - j)) = f n) (t : Nat) : wat ((seg f 0 i).take j) ((seg f 0 i).drop j) t = f t := by
  have e := seg_app (f := f) (a := 0) (j := j) (i - j)
  rw [show j + (i - j) = i by omega, Nat.zero_add] at e
  rw [e, List.take_left' seg_len, List.drop_left' seg_len]
  have h1 := said_wat (op := []) (e := f) (a := j) (q := i - j) (by omega) hp t
  rw [List.nil_append] at h1
  rw [h1]
  unfold sd0
  rw [if_neg (by show ¬ t < 0; omega)]
  rfl
def spPlay (C cX : Addr) : Sp := fun vs H Q E => ∃ (x y : Addr) (I O L I2 O2 L2 : Int) (op op2 : List Int) (c c2 : List (List (Int × Int))), vs = [.ref x, .ref y] ∧ MchAt C H x I O L op c ∧ Vm I O L op c ∧ MchAt C H y I2 O2 L2 op2 c2 ∧ Vm I2 O2 L2 op2 c2 ∧ c.length ≤ 4 ∧ c2.length ≤ 4 ∧
  (¬ (L2 = -1 - L ∧ I2 = O ∧ O2 = I) → ∀ H', Same H H' → E (.ref cX) none H') ∧
  (L2 = -1 - L → I2 = O → O2 = I → I ≤ 3 ∧ O ≤ 3 ∧ ∀ (H' : Hp) (p : Addr) (h l : List Int), Same H H' → Las H' p h l → Nrm h l → (∀ t, wat h l t = plW I L c op c2 op2 t) → h.length ≤ 432 → l.length ≤ 432 → Q (.ref p) H')
theorem cal_play {C cX : Addr} (T : Txt K mg) (eX : ErrC K mg "Mismatch" cX) (PC : MchC K C) : CalX P w K mg base 3 "play" (spPlay C cX) := by
  have C_exchange : C8.Cal P w K mg base 1 "exchange" (spExch C) [] := cal_exch T PC
  have C_shortest_lasso : C8.Cal P w K mg base 2 "shortest_lasso" spShort [] := cal_short T
  obtain ⟨f, fd, F, hm, hb⟩ := T.h_play
  refine ⟨f, fd, _, F.okX sc_play (fun vs H Q E h => ?_) (fun cdv A outer s H vs Q E hr h => ?_), hm, F.kp, hb⟩
  · obtain ⟨x, y, I, O, L, I2, O2, L2, op, op2, c, c2, rfl, _⟩ := h
    rfl
  · obtain ⟨x, y, I, O, L, I2, O2, L2, op, op2, c, c2, rfl, hA, hV, hB, hU, hc, hc2, qE, qQ⟩ := h
    refine ⟨_, (pss_cons
      (ps_if (pt_cmpR op_ne (pe_fld (pv 1) rfl) (pe_op op_sub (pe_un un_neg pe_int) (pe_fld (pv 0) rfl)) (nomark _)) (pss_one
      (ps_raise rfl (takes_of rfl rfl rfl rfl) (eX.made rfl))) pss_nil)
      (pss_cons
      (ps_if (PW.pt (pw_or (pt_cmpR op_ne (pe_fld (pv 1) rfl) (pe_fld (pv 0) rfl) (nomark _)) (pw_or1 (pt_cmpR op_ne (pe_fld (pv 1) rfl) (pe_fld (pv 0) rfl) (nomark _))))) (pss_one
      (ps_raise rfl (takes_of rfl rfl rfl rfl) (eX.made rfl))) pss_nil)
      (C8.pss_cut
      (ps_if (pt_cmpR op_ge (pe_fld (pv 0) rfl) pe_int (nomark _)) (pss_cons
      (ps_asg (C8.pe_c C_exchange hr (by decide) (by rfl) (pa_cons (pv 0) (pa_cons (pv 1) pa_nil))) (pg_tup (by rfl) (pgs_cons (pg_name (i := 2) sc_play.nd rfl (.inl rfl)) (pgs_cons (pg_name (i := 3) sc_play.nd rfl (.inl rfl)) pgs_nil))))
      (pss_one
      (ps_setLc (i := 4) (own := [("said", 5), ("heard", 6)]) (g := gTup K 2 (gCons (gName 5) (gCons (gName 6) gNil))) (tt := tYes) rfl sc_play.nd rfl rfl (sw_true rfl rfl rfl (by decide +kernel)) (pi_list (pv 2)) (blkOk_by (N := N_play) (sc := defScope s_play) (by decide +kernel)) (fun _ _ _ _ _ => (pg_tup (by rfl) (pgs_cons (pg_name (i := 5) sc_play.nd rfl (Or.inl rfl)) (pgs_cons (pg_name (i := 6) sc_play.nd rfl (Or.inl rfl)) pgs_nil)))) (fun _ _ _ _ _ => pts_nil) (fun _ _ _ _ _ => (pe_op op_add (pv 6) (pe_op op_mul (pe_fldK (K := K) rfl (pv 0) rfl) (pv 5))))))) (pss_cons
      (ps_asg (C8.pe_c C_exchange hr (by decide) (by rfl) (pa_cons (pv 1) (pa_cons (pv 0) pa_nil))) (pg_tup (by rfl) (pgs_cons (pg_name (i := 2) sc_play.nd rfl (.inl rfl)) (pgs_cons (pg_name (i := 3) sc_play.nd rfl (.inl rfl)) pgs_nil))))
      (pss_one
      (ps_setLc (i := 4) (own := [("heard", 6), ("said", 5)]) (g := gTup K 2 (gCons (gName 6) (gCons (gName 5) gNil))) (tt := tYes) rfl sc_play.nd rfl rfl (sw_true rfl rfl rfl (by decide +kernel)) (pi_list (pv 2)) (blkOk_by (N := N_play) (sc := defScope s_play) (by decide +kernel)) (fun _ _ _ _ _ => (pg_tup (by rfl) (pgs_cons (pg_name (i := 6) sc_play.nd rfl (Or.inl rfl)) (pgs_cons (pg_name (i := 5) sc_play.nd rfl (Or.inl rfl)) pgs_nil)))) (fun _ _ _ _ _ => pts_nil) (fun _ _ _ _ _ => (pe_op op_add (pv 6) (pe_op op_mul (pe_fldK (K := K) rfl (pv 0) rfl) (pv 5))))))))
      (pss_one
      (ps_ret (C8.pe_c C_shortest_lasso hr (by decide) (by rfl) (pa_cons (pe_slice (sl_listK (K := K) rfl) (pv 4) po_none (po_some (pv 3))) (pa_cons (pe_slice (sl_listK (K := K) rfl) (pv 4) (po_some (pv 3)) po_none) pa_nil)))))))), ?_⟩
    obtain ⟨dx, ox, rx, xs, e1, e2, e3, e4⟩ := id hA
    obtain ⟨dy, oy, ry, ys, f1, f2, f3, f4⟩ := id hB
    refine ⟨_, rfl, y, C, dy, _, _, rfl, f1, PC.cl, PC.nL, mf_L _ _ _ _ _, _, rfl, _, rfl, x, C, dx, _, _, rfl, e1, PC.cl, PC.nL, mf_L _ _ _ _ _, ?_⟩
    refine ⟨_, _, rfl, rfl, rfl, _, rfl, ite_ne (fun c => qE (fun z => c (by rw [z.1])) H (Same.refl H)) (fun cL => ?_)⟩
    have cL : L2 = -1 - L := cL
    refine ⟨_, rfl, y, C, dy, _, _, rfl, f1, PC.cl, PC.nI, mf_I _ _ _ _ _, _, rfl, x, C, dx, _, _, rfl, e1, PC.cl, PC.nO, mf_O _ _ _ _ _, rfl, _, rfl, ite_ne (fun c => qE (fun z => c z.2.1) H (Same.refl H)) (fun cI => ?_)⟩
    refine ⟨_, rfl, y, C, dy, _, _, rfl, f1, PC.cl, PC.nO, mf_O _ _ _ _ _, _, rfl, x, C, dx, _, _, rfl, e1, PC.cl, PC.nI, mf_I _ _ _ _ _, rfl, _, rfl, ite_ne (fun c => qE (fun z => c z.2.2) H (Same.refl H)) (fun cO => ?_)⟩
    have cI : I2 = O := cI
    have cO : O2 = I := cO
    obtain ⟨hI3, hO3, q⟩ := qQ cL cI cO
    subst cL cI cO
    clear qE qQ
    have hl1 := hV.op_len
    have hi1 := hV.i1
    have ho1 := hU.i1
    have hl2 := hU.op_len
    refine ⟨fun σ H' => ∃ (l : Addr) (i j : Nat) (v2 v5 v6 : Option V), σ = [some (.ref x), some (.ref y), v2, some (VN j), some (.ref l), v5, v6] ∧ Same H H' ∧ H' l = some (.lst ((seg (plW O2 L c op c2 op2) 0 i).map V.int)) ∧ j < i ∧ i ≤ 432 ∧ ∀ n, j ≤ n → plW O2 L c op c2 op2 (n + (i - j)) = plW O2 L c op c2 op2 n, ?_, ?_⟩
    · refine ⟨_, rfl, x, C, dx, _, _, rfl, e1, PC.cl, PC.nL, mf_L _ _ _ _ _, _, _, rfl, rfl, _, rfl, ite2 (fun e => ?_) (fun e => ?_)⟩
      · have hL : 0 ≤ L := of_decide_eq_true e
        refine ⟨_, rfl, _, rfl, x, y, O2, I2, L, -1 - L, op, op2, c, c2, rfl, hA, hV, hB, hU, fun z => by rw [z] at hl2; simp at hl2; omega, hI3, hc, hc2, fun H1 t pl i j s1 et hP hj hi he => ?_⟩
        obtain ⟨as, eP, hal, hP⟩ := hP
        have hH : plH L c op c2 op2 = pX c c2 op2 := if_pos hL
        have hS : plS L c op c2 op2 = pY c c2 op2 := if_pos hL
        have hW : ∀ n, plW O2 L c op c2 op2 n = pX c c2 op2 n + O2 * pY c c2 op2 n := fun n => by unfold plW; rw [hH, hS]
        have hper : ∀ n, j ≤ n → plW O2 L c op c2 op2 (n + (i - j)) = plW O2 L c op c2 op2 n := fun n hn => by
          obtain ⟨a, b⟩ := pk_per hj (pk_of he.symm) n hn
          rw [hW, hW, a, b]
        refine ⟨t, _, rfl, .of et, rfl, _, _, rfl, _, _, rfl, rfl, ?_⟩
        refine ⟨_, rfl, pl, rfl, ⟨_, .of eP⟩, fun D hD => lc_list (K := K) (a := pl) (xs := as.map V.ref) (fun k H' => Same H1 H' ∧ H' D = some (.lst ((seg (plW O2 L c op c2 op2) 0 k).map V.int)))
          ⟨same_new hD, upd_same⟩ (fun k H' _ z => .of (z.1 _ _ eP)) ?_ ?_⟩
        · rintro k v H2 hk ⟨s2, e2⟩
          obtain ⟨b, hb, rfl⟩ := refsg hk
          have eb := s2 _ _ (hP k b hb)
          have hki := lt_of_get hb
          refine ⟨b, _, rfl, .of eb, rfl, _, _, rfl, _, _, rfl, rfl, ?_⟩
          refine ⟨rfl, _, rfl, _, rfl, x, C, dx, _, _, rfl, s2 _ _ (s1 _ _ e1), PC.cl, PC.nI, mf_I _ _ _ _ _, _, rfl, _, _, rfl, rfl, .inl ⟨by omega, by omega⟩, _, _, rfl, rfl, _, e2, lenI (by rw [seg_len]; omega), fun c' o hc' => ?_, ?_⟩
          · rw [upd_ne (ne_of_none hc' hD)]
            exact s2 _ _ hc'
          · rw [upd_same, seg_snoc, List.map_append, Nat.zero_add, hW k]
            rfl
        · rintro H2 ⟨s2, e2⟩
          rw [List.length_map, hal] at e2
          exact ⟨D, i, j, _, _, _, rfl, s1.trans s2, e2, hj, hi, hper⟩
      · have hL : ¬ 0 ≤ L := fun z => e (decide_eq_true z)
        refine ⟨_, rfl, _, rfl, y, x, I2, O2, -1 - L, L, op2, op, c2, c, rfl, hB, hU, hA, hV, fun z => by rw [z] at hl1; simp at hl1; omega, hO3, hc2, hc, fun H1 t pl i j s1 et hP hj hi he => ?_⟩
        obtain ⟨as, eP, hal, hP⟩ := hP
        have hH : plH L c op c2 op2 = pY c2 c op := if_neg hL
        have hS : plS L c op c2 op2 = pX c2 c op := if_neg hL
        have hW : ∀ n, plW O2 L c op c2 op2 n = pY c2 c op n + O2 * pX c2 c op n := fun n => by unfold plW; rw [hH, hS]
        have hper : ∀ n, j ≤ n → plW O2 L c op c2 op2 (n + (i - j)) = plW O2 L c op c2 op2 n := fun n hn => by
          obtain ⟨a, b⟩ := pk_per hj (pk_of he.symm) n hn
          rw [hW, hW, b, a]
        refine ⟨t, _, rfl, .of et, rfl, _, _, rfl, _, _, rfl, rfl, ?_⟩
        refine ⟨_, rfl, pl, rfl, ⟨_, .of eP⟩, fun D hD => lc_list (K := K) (a := pl) (xs := as.map V.ref) (fun k H' => Same H1 H' ∧ H' D = some (.lst ((seg (plW O2 L c op c2 op2) 0 k).map V.int)))
          ⟨same_new hD, upd_same⟩ (fun k H' _ z => .of (z.1 _ _ eP)) ?_ ?_⟩
        · rintro k v H2 hk ⟨s2, e2⟩
          obtain ⟨b, hb, rfl⟩ := refsg hk
          have eb := s2 _ _ (hP k b hb)
          have hki := lt_of_get hb
          refine ⟨b, _, rfl, .of eb, rfl, _, _, rfl, _, _, rfl, rfl, ?_⟩
          refine ⟨rfl, _, rfl, _, rfl, x, C, dx, _, _, rfl, s2 _ _ (s1 _ _ e1), PC.cl, PC.nI, mf_I _ _ _ _ _, _, rfl, _, _, rfl, rfl, .inl ⟨by omega, by omega⟩, _, _, rfl, rfl, _, e2, lenI (by rw [seg_len]; omega), fun c' o hc' => ?_, ?_⟩
          · rw [upd_ne (ne_of_none hc' hD)]
            exact s2 _ _ hc'
          · rw [upd_same, seg_snoc, List.map_append, Nat.zero_add, hW k]
            rfl
        · rintro H2 ⟨s2, e2⟩
          rw [List.length_map, hal] at e2
          exact ⟨D, i, j, _, _, _, rfl, s1.trans s2, e2, hj, hi, hper⟩
    · rintro σ H1 ⟨l, i, j, v2, v5, v6, rfl, s1, eD, hj, hi, hper⟩
      refine ⟨_, rfl, _, rfl, _, rfl, ?_⟩
      refine sll_to eD rfl fun r1 hr1 => ?_
      have t1 : Same H1 (upd H1 r1 (.lst (((seg (plW O2 L c op c2 op2) 0 i).take j).map V.int))) := same_new hr1
      have g1 := upd_same (H := H1) (a := r1) (o := .lst (((seg (plW O2 L c op c2 op2) 0 i).take j).map V.int))
      generalize upd H1 r1 (.lst (((seg (plW O2 L c op c2 op2) 0 i).take j).map V.int)) = H2 at t1 g1 ⊢
      refine ⟨_, rfl, _, rfl, _, rfl, ?_⟩
      walk_at "nl"
      refine sll_from (t1 _ _ eD) rfl (by rw [seg_len]; omega) fun r2 hr2 => ?_
      have t2 := same_new (o := .lst (((seg (plW O2 L c op c2 op2) 0 i).drop j).map V.int)) hr2
      have g2 := upd_same (H := H2) (a := r2) (o := .lst (((seg (plW O2 L c op c2 op2) 0 i).drop j).map V.int))
      generalize upd H2 r2 (.lst (((seg (plW O2 L c op c2 op2) 0 i).drop j).map V.int)) = H3 at t2 g2 ⊢
      have el1 : ((seg (plW O2 L c op c2 op2) 0 i).take j).length = j := by rw [List.length_take, seg_len]; omega
      have el2 : ((seg (plW O2 L c op c2 op2) 0 i).drop j).length = i - j := by rw [List.length_drop, seg_len]
      refine ⟨r1, r2, _, _, rfl, .inl (t2 _ _ g1), .inl g2, fun y => ?_, by omega, by omega, fun H4 p4 h' l' s4 L4 S4 => ?_⟩
      · rw [y] at el2
        have : (0 : Nat) = i - j := el2
        omega
      · have o1 := S4.hl
        have o2 := S4.ll
        refine q H4 p4 h' l' (s1.trans (t1.trans (t2.trans s4))) L4 S4.nrm (fun t => ?_) (by omega) (by omega)
        rw [S4.same, cut_per hj hper]
/-! the law's own play: how many letters are heard and said -/
def lnH (L : Int) (two : Nat) : Nat := (max 0 ((two : Int) + 1 + L)).toNat
def lnS (L : Int) (one : Nat) : Nat := (max 0 ((one : Int) - L)).toNat
def en1 (L : Int) (t : Nat) : Nat := t + (max 0 (L + 1)).toNat
def en2 (L : Int) (t : Nat) : Nat := t + (max 0 (-L)).toNat
structure Sm (L : Int) (t one two : Nat) : Prop where
  a : one ≤ lnH L two
  b : two ≤ lnS L one
  c : one ≤ en1 L t
  d : two ≤ en2 L t
  e : 0 ≤ L → one = en1 L t → two = en2 L t
  f : L < 0 → two = en2 L t → one = en1 L t
section
variable {L : Int} {t one two : Nat}
theorem Sm.s1 (l0 : -3 ≤ L) (l1 : L ≤ 2) (h : Sm L t one two) (c1 : one < lnH L two) (c2 : lnS L one ≤ t ∨ lnH L two ≤ t) : Sm L t (one + 1) two := by
  obtain ⟨a, b, c, d, e, f⟩ := h
  unfold lnH lnS en1 en2 at *
  exact ⟨by unfold lnH; omega, by unfold lnS; omega, by unfold en1; omega, by unfold en2; omega, by unfold en1 en2; omega, by unfold en1 en2; omega⟩
theorem Sm.s2 (l0 : -3 ≤ L) (l1 : L ≤ 2) (h : Sm L t one two) (c1 : two < lnS L one) (c2 : lnS L one ≤ t ∨ lnH L two ≤ t) : Sm L t one (two + 1) := by
  obtain ⟨a, b, c, d, e, f⟩ := h
  unfold lnH lnS en1 en2 at *
  exact ⟨by unfold lnH; omega, by unfold lnS; omega, by unfold en1; omega, by unfold en2; omega, by unfold en1 en2; omega, by unfold en1 en2; omega⟩
theorem Sm.go (l0 : -3 ≤ L) (l1 : L ≤ 2) (h : Sm L t one two) (c1 : ¬ one < lnH L two) (c2 : lnS L one ≤ t ∨ lnH L two ≤ t) : two < lnS L one := by
  obtain ⟨a, b, c, d, e, f⟩ := h
  unfold lnH lnS en1 en2 at *
  omega
theorem Sm.fin (l0 : -3 ≤ L) (l1 : L ≤ 2) (h : Sm L t one two) (c1 : t < lnS L one) (c2 : t < lnH L two) : one = en1 L t ∧ two = en2 L t := by
  obtain ⟨a, b, c, d, e, f⟩ := h
  unfold lnH lnS en1 en2 at *
  omega
theorem Sm.full (l0 : -3 ≤ L) (l1 : L ≤ 2) (h : Sm L t one two) {s : Nat} (hs : en1 L t + en2 L t ≤ s + 7) (c : s + 8 ≤ one + two) : False := by
  have := h.c
  have := h.d
  omega
theorem Sm.next (l0 : -3 ≤ L) (l1 : L ≤ 2) : Sm L (t + 1) (en1 L t) (en2 L t) ∧ en1 L (t + 1) + en2 L (t + 1) ≤ en1 L t + en2 L t + 7 := by
  refine ⟨⟨?_, ?_, ?_, ?_, ?_, ?_⟩, ?_⟩ <;> simp only [en1, en2, lnH, lnS] <;> omega
theorem Sm.zero (l0 : -3 ≤ L) (l1 : L ≤ 2) : Sm L 0 0 0 ∧ en1 L 0 + en2 L 0 ≤ 0 + 7 := by
  refine ⟨⟨?_, ?_, ?_, ?_, ?_, ?_⟩, ?_⟩ <;> simp only [en1, en2, lnH, lnS] <;> omega
theorem lnS_up (h : 0 ≤ (one : Int) - L) : lnS L (one + 1) = lnS L one + 1 ∧ lnS L one = ((one : Int) - L).toNat := by
  unfold lnS
  omega
theorem lnS_no (h : ¬ 0 ≤ (one : Int) - L) : lnS L (one + 1) = lnS L one := by
  unfold lnS
  omega
theorem lnH_up (h : 0 ≤ (two : Int) + 1 + L) : lnH L (two + 1) = lnH L two + 1 ∧ lnH L two = ((two : Int) + 1 + L).toNat := by
  unfold lnH
  omega
theorem lnH_no (h : ¬ 0 ≤ (two : Int) + 1 + L) : lnH L (two + 1) = lnH L two := by
  unfold lnH
  omega
end
abbrev Pq := Int × Int × List Int × List Int × Int × Int
/-- what the law keeps of a turn -/
def pkey (L : Int) (c c2 : List (List (Int × Int))) (He Sa : Nat → Int) (t : Nat) : Pq :=
  (stt c He (en1 L t), stt c2 Sa (en2 L t), seg He t (lnH L (en2 L t) - t), seg Sa t (lnS L (en1 L t) - t), ((lnH L (en2 L t) : Nat) : Int) - ((en1 L t : Nat) : Int), ((lnS L (en1 L t) : Nat) : Int) - ((en2 L t : Nat) : Int))
def kyQ (p : Pq) : NestedKey := .tup [.num p.1, .num p.2.1, kyI p.2.2.1, kyI p.2.2.2.1, .num p.2.2.2.2.1, .num p.2.2.2.2.2]
theorem kyQ_ky : Ky kyQ := by
  refine ⟨fun a b h => ?_, fun a => ?_⟩
  · have h := NestedKey.tup.inj h
    injection h with h1 h
    injection h with h2 h
    injection h with h3 h
    injection h with h4 h
    injection h with h5 h
    injection h with h6 h
    exact Prod.ext (NestedKey.num.inj h1) (Prod.ext (NestedKey.num.inj h2) (Prod.ext (kyI_inj h3) (Prod.ext (kyI_inj h4) (Prod.ext (NestedKey.num.inj h5) (NestedKey.num.inj h6)))))
  · unfold kyQ
    rw [NestedKey.depth, NestedKey.depthAll, NestedKey.depthAll, NestedKey.depthAll, NestedKey.depthAll, NestedKey.depthAll, NestedKey.depthAll, NestedKey.depthAll, kyI_dep, kyI_dep, NestedKey.depth, NestedKey.depth, NestedKey.depth, NestedKey.depth]
    decide
theorem nk_q {H : Hp} {N q r : Addr} {p : Pq} (h1 : H N = some (.tup [.int p.1, .int p.2.1, .ref q, .ref r, .int p.2.2.2.2.1, .int p.2.2.2.2.2])) (h2 : H q = some (.tup (p.2.2.1.map V.int))) (h3 : H r = some (.tup (p.2.2.2.1.map V.int))) : Dn2.NkV K H (kyQ p) (.ref N) := by
  unfold kyQ
  rw [Dn2.NkV]
  refine ⟨N, _, rfl, .inl h1, ?_⟩
  rw [Dn2.NkA]
  refine ⟨_, _, rfl, by rw [Dn2.NkV], ?_⟩
  rw [Dn2.NkA]
  refine ⟨_, _, rfl, by rw [Dn2.NkV], ?_⟩
  rw [Dn2.NkA]
  refine ⟨_, _, rfl, nk_iff.mpr (.inl h2), ?_⟩
  rw [Dn2.NkA]
  refine ⟨_, _, rfl, nk_iff.mpr (.inl h3), ?_⟩
  rw [Dn2.NkA]
  refine ⟨_, _, rfl, by rw [Dn2.NkV], ?_⟩
  rw [Dn2.NkA]
  refine ⟨_, _, rfl, by rw [Dn2.NkV], ?_⟩
  rw [Dn2.NkA]
theorem lpr_cell {H : Hp} {r : Addr} {as : List Addr} {I s z : Int} {c : List (List (Int × Int))} (h : LPr H r as c) (hW : Wc I c) (s0 : 0 ≤ s) (s1 : s < (c.length : Int)) (z0 : 0 ≤ z) (z1 : z < I) :
    ∃ (ra b : Addr) (bs : List Addr), H r = some (.lst (as.map V.ref)) ∧ atI (as.map V.ref) s = some (.ref ra) ∧ H ra = some (.lst (bs.map V.ref)) ∧ atI (bs.map V.ref) z = some (.ref b) ∧ H b = some (.tup [.int (cel c s z).1, .int (cel c s z).2]) := by
  obtain ⟨e1, e4⟩ := h
  obtain ⟨row, hrow, hcel, _, _⟩ := cel_get hW s0 s1 z0 z1
  obtain ⟨ra, hra⟩ : ∃ ra, as[s.toNat]? = some ra := ⟨_, List.getElem?_eq_getElem (by have := e4.len; omega)⟩
  obtain ⟨bs, row2, h2, h3, h4, h5⟩ := e4.g _ ra hra
  rw [hrow] at h2
  cases h2
  have hzl := (List.getElem?_eq_some_iff.mp hcel).1
  obtain ⟨b, hb⟩ : ∃ b, bs[z.toNat]? = some b := ⟨_, List.getElem?_eq_getElem (by omega)⟩
  obtain ⟨t, l, h6, h7⟩ := h5 _ b hb
  rw [hcel] at h6
  have ec := Option.some.inj h6
  refine ⟨ra, b, bs, e1, ?_, h3, ?_, by rw [ec]; exact h7⟩
  · rw [show s = ((s.toNat : Nat) : Int) by omega]
    exact atI_nat (by rw [List.getElem?_map, hra]; rfl)
  · rw [show z = ((z.toNat : Nat) : Int) by omega]
    exact atI_nat (by rw [List.getElem?_map, hb]; rfl)
theorem seg_drop {f : Nat → Int} {t n : Nat} (h : t ≤ n) : (seg f 0 n).drop t = seg f t (n - t) := by
  have e := seg_app (f := f) (a := 0) (j := t) (n - t)
  rw [show t + (n - t) = n by omega, Nat.zero_add] at e
  rw [e, List.drop_left' seg_len]
theorem seg_at {f : Nat → Int} {n j : Nat} (h : j < n) : atI ((seg f 0 n).map V.int) (j : Int) = some (.int (f j)) := by
  refine atI_nat ?_
  rw [List.getElem?_map, seg_get h, Nat.zero_add]
  rfl
theorem sw_seg {f : Nat → Int} {n : Nat} : (seg f 0 (n + 1)).map V.int = (seg f 0 n).map V.int ++ [.int (f n)] := by
  rw [seg_snoc, List.map_append, Nat.zero_add]
  rfl
theorem dgn_same {w : World} {H H' : Hp} {d : Addr} {y : V} {r : Option V} (s : Same H H') (h : Dn2.DGN P w K H d y r) : Dn2.DGN P w K H' d y r := by
  obtain ⟨kvs, k, b, h1, h2, h3, h4, h5⟩ := h
  exact ⟨kvs, k, b, h1.same s, h2, Dn2.NkV.same (fun b xs e => s _ _ e) _ _ h3, h4, h5⟩
def spLplay : Sp := fun vs H Q _ => ∃ (r oa r2 oa2 : Addr) (as as2 : List Addr) (L I O : Int) (op op2 : List Int) (c c2 : List (List (Int × Int))) (He Sa : Nat → Int), vs = [.ref r, .ref oa, .int L, .int I, .ref r2, .ref oa2] ∧ LPr H r as c ∧ LPr H r2 as2 c2 ∧ H oa = some (.lst (op.map V.int)) ∧ H oa2 = some (.lst (op2.map V.int)) ∧
  Wc I c ∧ Wc O c2 ∧ c ≠ [] ∧ c2 ≠ [] ∧ c.length ≤ 4 ∧ c2.length ≤ 4 ∧ -3 ≤ L ∧ L ≤ 2 ∧ 1 ≤ I ∧ I ≤ 3 ∧ (∀ n, 0 ≤ He n ∧ He n < I) ∧ (∀ n, 0 ≤ Sa n ∧ Sa n < O) ∧
  (∀ n : Nat, 0 ≤ (n : Int) + 1 + L → He ((n : Int) + 1 + L).toNat = emt c2 Sa n) ∧ (∀ n : Nat, 0 ≤ (n : Int) - L → Sa ((n : Int) - L).toNat = emt c He n) ∧
  op2 = seg He 0 (lnH L 0) ∧ op = seg Sa 0 (lnS L 0) ∧ (∃ t1 t2, t1 < t2 ∧ t2 ≤ 5000 ∧ pkey L c c2 He Sa t1 = pkey L c c2 He Sa t2) ∧
  (∀ j t, j < t → pkey L c c2 He Sa j = pkey L c c2 He Sa t → ∀ n, j ≤ n → He (n + (t - j)) + I * Sa (n + (t - j)) = He n + I * Sa n) ∧
  ∀ (H' : Hp) (p : Addr) (h l : List Int), Same H H' → Las H' p h l → l ≠ [] → (∀ t, wat h l t = He t + I * Sa t) → h.length ≤ 5000 → l.length ≤ 5000 → Q (.ref p) H'
theorem cal_lplay (T : Txt K mg) : C8.Cal P w K mg base 1 "_law_play" spLplay [] := by
  obtain ⟨f, fd, F, hm, hb⟩ := T.h_law_play
  refine ⟨f, fd, _, [], F.ok sc_law_play (fun vs H Q E h => ?_) (fun cdv A outer s H vs Q E hr h => ?_), hm, F.kp, hb, .nil⟩
  · obtain ⟨r, oa, r2, oa2, as, as2, L, I, O, op, op2, c, c2, He, Sa, rfl, _⟩ := h
    rfl
  · obtain ⟨r, oa, r2, oa2, as, as2, L, I, O, op, op2, c, c2, He, Sa, rfl, hR, hR2, ho, ho2, hW, hW2, hne, hne2, hc, hc2, l0, l1, i0, i1, hHe, hSa, hH, hS, rfl, rfl, hrep, hper, q⟩ := h
    refine ⟨_, (pss_cons
      (ps_set (i := 6) sc_law_play.nd rfl (Or.inl rfl) (pe_callTy (call_list_ofK (K := K) rfl) (by rfl) T.z_list (by decide +kernel) (pa_cons (pv 5) pa_nil)))
      (pss_cons
      (ps_set (i := 7) sc_law_play.nd rfl (Or.inl rfl) (pe_callTy (call_list_ofK (K := K) rfl) (by rfl) T.z_list (by decide +kernel) (pa_cons (pv 1) pa_nil)))
      (pss_cons
      (ps_set (i := 8) sc_law_play.nd rfl (Or.inl rfl) pe_int)
      (pss_cons
      (ps_set (i := 9) sc_law_play.nd rfl (Or.inl rfl) pe_int)
      (pss_cons
      (ps_set (i := 10) sc_law_play.nd rfl (Or.inl rfl) pe_int)
      (pss_cons
      (ps_set (i := 11) sc_law_play.nd rfl (Or.inl rfl) pe_int)
      (pss_cons
      (ps_set (i := 12) sc_law_play.nd rfl (Or.inl rfl) (pe_lst pa_nil))
      (pss_cons
      (ps_set (i := 13) sc_law_play.nd rfl (Or.inl rfl) (Dn2.pe_dnewN (P := P) (w := w) rfl rfl))
      (pss_cons
      (ps_for PassesOwn.never rfl (pi_range1 (by rfl) T.z_range (pa_cons (pe_op op_add (pe_op op_mul (pe_op op_mul (pe_callB (call_lenK (K := K) rfl) (by rfl) T.z_len PySem.boot_len (pa_cons (pv 0) pa_nil)) (pe_callB (call_lenK (K := K) rfl) (by rfl) T.z_len PySem.boot_len (pa_cons (pv 4) pa_nil))) pe_int) pe_int) pa_nil)) (pg_name (i := 14) sc_law_play.nd rfl (.inl rfl)) (pss_cons
      (ps_for PassesOwn.never rfl (pi_range1 (by rfl) T.z_range (pa_cons pe_int pa_nil)) (pg_name (i := 15) sc_law_play.nd rfl (.inl rfl)) (C8.pss_cut
      (ps_if (PW.pt (pw_and (pt_cmpR op_lt (pv 10) (pe_callB (call_lenK (K := K) rfl) (by rfl) T.z_len PySem.boot_len (pa_cons (pv 6) pa_nil)) (nomark _)) (pw_and1 (PW.pt (pw_or (pt_cmpR op_le (pe_callB (call_lenK (K := K) rfl) (by rfl) T.z_len PySem.boot_len (pa_cons (pv 7) pa_nil)) (pv 14) (nomark _)) (pw_or1 (pt_cmpR op_le (pe_callB (call_lenK (K := K) rfl) (by rfl) T.z_len PySem.boot_len (pa_cons (pv 6) pa_nil)) (pv 14) (nomark _)))))))) (pss_cons
      (ps_set (i := 16) sc_law_play.nd rfl (Or.inl rfl) (pe_ix (ix_listK (K := K) rfl) (pe_ix (ix_listK (K := K) rfl) (pv 0) (pv 8) (fun _ _ => rfl)) (pe_ix (ix_listK (K := K) rfl) (pv 6) (pv 10) (fun _ _ => rfl)) (fun _ _ => rfl)))
      (pss_cons
      (ps_set (i := 8) sc_law_play.nd rfl (Or.inl rfl) (pe_ix (ix_tupK (K := K) rfl) (pv 16) pe_int (fun _ _ => rfl)))
      (C8.pss_cut
      (ps_if (pt_cmpR op_ge (pe_op op_sub (pv 10) (pv 2)) pe_int (nomark _)) (pss_one
      (ps_expr (pe_bm PySem.F.plainAttrs_list PySem.F.slot_list_append PySem.F.type_list_append mt_append (pv 7) (pa_cons (pe_ix (ix_tupK (K := K) rfl) (pv 16) pe_int (fun _ _ => rfl)) pa_nil)))) pss_nil)
      (pss_one
      (ps_set (i := 10) sc_law_play.nd rfl (Or.inl rfl) (pe_op op_add (pv 10) pe_int)))))) pss_nil)
      (pss_one
      (ps_if (PW.pt (pw_and (pt_cmpR op_lt (pv 11) (pe_callB (call_lenK (K := K) rfl) (by rfl) T.z_len PySem.boot_len (pa_cons (pv 7) pa_nil)) (nomark _)) (pw_and1 (PW.pt (pw_or (pt_cmpR op_le (pe_callB (call_lenK (K := K) rfl) (by rfl) T.z_len PySem.boot_len (pa_cons (pv 7) pa_nil)) (pv 14) (nomark _)) (pw_or1 (pt_cmpR op_le (pe_callB (call_lenK (K := K) rfl) (by rfl) T.z_len PySem.boot_len (pa_cons (pv 6) pa_nil)) (pv 14) (nomark _)))))))) (pss_cons
      (ps_set (i := 16) sc_law_play.nd rfl (Or.inl rfl) (pe_ix (ix_listK (K := K) rfl) (pe_ix (ix_listK (K := K) rfl) (pv 4) (pv 9) (fun _ _ => rfl)) (pe_ix (ix_listK (K := K) rfl) (pv 7) (pv 11) (fun _ _ => rfl)) (fun _ _ => rfl)))
      (pss_cons
      (ps_set (i := 9) sc_law_play.nd rfl (Or.inl rfl) (pe_ix (ix_tupK (K := K) rfl) (pv 16) pe_int (fun _ _ => rfl)))
      (C8.pss_cut
      (ps_if (pt_cmpR op_ge (pe_op op_add (pe_op op_add (pv 11) pe_int) (pv 2)) pe_int (nomark _)) (pss_one
      (ps_expr (pe_bm PySem.F.plainAttrs_list PySem.F.slot_list_append PySem.F.type_list_append mt_append (pv 6) (pa_cons (pe_ix (ix_tupK (K := K) rfl) (pv 16) pe_int (fun _ _ => rfl)) pa_nil)))) pss_nil)
      (pss_one
      (ps_set (i := 11) sc_law_play.nd rfl (Or.inl rfl) (pe_op op_add (pv 11) pe_int)))))) pss_nil))))
      (pss_cons
      (ps_set (i := 17) sc_law_play.nd rfl (Or.inl rfl) (pe_tup (pa_cons (pv 8) (pa_cons (pv 9) (pa_cons (pe_callTy (call_tuple_ofK (K := K) rfl) (by rfl) T.z_tuple (by decide +kernel) (pa_cons (pe_slice (sl_listK (K := K) rfl) (pv 6) (po_some (pv 14)) po_none) pa_nil)) (pa_cons (pe_callTy (call_tuple_ofK (K := K) rfl) (by rfl) T.z_tuple (by decide +kernel) (pa_cons (pe_slice (sl_listK (K := K) rfl) (pv 7) (po_some (pv 14)) po_none) pa_nil)) (pa_cons (pe_op op_sub (pe_callB (call_lenK (K := K) rfl) (by rfl) T.z_len PySem.boot_len (pa_cons (pv 6) pa_nil)) (pv 10)) (pa_cons (pe_op op_sub (pe_callB (call_lenK (K := K) rfl) (by rfl) T.z_len PySem.boot_len (pa_cons (pv 7) pa_nil)) (pv 11)) pa_nil))))))))
      (pss_cons
      (ps_if (pt_cmp (Dn2.pc_dinN (P := P) (w := w) (K := K) rfl rfl rfl (Dn2.units65 hr) (pv 17) (pv 13))) (pss_one
      (ps_ret (pe_tup (pa_cons (pe_callTy (call_tuple_ofK (K := K) rfl) (by rfl) T.z_tuple (by decide +kernel) (pa_cons (pe_slice (sl_listK (K := K) rfl) (pv 12) po_none (po_some (Dn2.pe_dgetN (P := P) (w := w) (K := K) rfl rfl rfl (Dn2.units65 hr) (pv 13) (pv 17) (fun _ _ => rfl)))) pa_nil)) (pa_cons (pe_callTy (call_tuple_ofK (K := K) rfl) (by rfl) T.z_tuple (by decide +kernel) (pa_cons (pe_slice (sl_listK (K := K) rfl) (pv 12) (po_some (Dn2.pe_dgetN (P := P) (w := w) (K := K) rfl rfl rfl (Dn2.units65 hr) (pv 13) (pv 17) (fun _ _ => rfl))) po_none) pa_nil)) pa_nil))))) pss_nil)
      (pss_cons
      (Dn2.ps_dputN (P := P) (w := w) (K := K) rfl rfl rfl (Dn2.units65 hr) (pv 13) (pv 17) (pv 14) rfl)
      (pss_one
      (ps_expr (pe_bm PySem.F.plainAttrs_list PySem.F.slot_list_append PySem.F.type_list_append mt_append (pv 12) (pa_cons (pe_op op_add (pe_ix (ix_listK (K := K) rfl) (pv 6) (pv 14) (fun _ _ => rfl)) (pe_op op_mul (pv 3) (pe_ix (ix_listK (K := K) rfl) (pv 7) (pv 14) (fun _ _ => rfl)))) pa_nil)))))))))
      (pss_one
      (ps_ret (pe_tup (pa_cons (pe_tup pa_nil) (pa_cons (pe_tup (pa_cons pe_int pa_nil)) pa_nil)))))))))))))), ?_⟩
    refine ⟨_, rfl, oa2, _, rfl, .inl (.of ho2), fun Hd nHd => ?_⟩
    have s1 := same_new (o := .lst ((seg He 0 (lnH L 0)).map V.int)) nHd
    have eHd := upd_same (H := H) (a := Hd) (o := .lst ((seg He 0 (lnH L 0)).map V.int))
    generalize upd H Hd (.lst ((seg He 0 (lnH L 0)).map V.int)) = H1 at s1 eHd ⊢
    refine ⟨_, rfl, oa, _, rfl, .inl (.of (s1 _ _ ho)), fun Sd nSd => ?_⟩
    have s2 := same_new (o := .lst ((seg Sa 0 (lnS L 0)).map V.int)) nSd
    have eSd := upd_same (H := H1) (a := Sd) (o := .lst ((seg Sa 0 (lnS L 0)).map V.int))
    have nHS : Hd ≠ Sd := fun z => by rw [z, nSd] at eHd; cases eHd
    generalize upd H1 Sd (.lst ((seg Sa 0 (lnS L 0)).map V.int)) = H2 at s2 eSd ⊢
    refine ⟨Nat.zero_le _, fun LT nLT => ?_⟩
    have s3 := same_new (o := .lst []) nLT
    have eLT := upd_same (H := H2) (a := LT) (o := .lst [])
    have nHL : Hd ≠ LT := fun z => by have h := s2 _ _ eHd; rw [z, nLT] at h; cases h
    have nSL : Sd ≠ LT := fun z => by rw [z, nLT] at eSd; cases eSd
    generalize upd H2 LT (.lst []) = H3 at s3 eLT ⊢
    refine fun d nd => ?_
    have ed : Dn2.DN P w K (upd H3 d (Dn2.DNO P w d [])) d [] := Dn2.dn_nil d H3
    have s4 : Same H3 (upd H3 d (Dn2.DNO P w d [])) := same_new nd
    generalize upd H3 d (Dn2.DNO P w d []) = H4 at ed s4 ⊢
    have s34 := s3.trans s4
    have eHd4 := s34 _ _ (s2 _ _ eHd)
    have eSd4 := s34 _ _ eSd
    have eLT4 := s4 _ _ eLT
    have s04 := s1.trans (s2.trans s34)
    have nHd0 : H Hd = none := nHd
    have nSd0 : H Sd = none := s1.free nSd
    have nLT0 : H LT = none := (s1.trans s2).free nLT
    have nd0 : H d = none := ((s1.trans s2).trans s3).free nd
    have ndl : ∀ {X : Hp} {kvs : List Dn2.Ent} {b : Addr} {xs : List V}, Dn2.DN P w K X d kvs → X b = some (.lst xs) → b ≠ d := fun h hb z => by
      obtain ⟨φ, e⟩ := dn_ext h
      rw [← z, hb] at e
      cases e
    clear s34 s4 s3 s2 s1 eLT eSd eHd nd nLT nSd nHd
    have e8 : V.int 0 = V.int (stt c He 0) := rfl
    have e9 : V.int 0 = V.int (stt c2 Sa 0) := rfl
    have hcn := List.length_pos_iff.mpr hne
    have hcn2 := List.length_pos_iff.mpr hne2
    have hal : (as.map V.ref).length = c.length := by rw [List.length_map, hR.2.len]
    have hal2 : (as2.map V.ref).length = c2.length := by rw [List.length_map, hR2.2.len]
    have hst := stt_in hW hne hHe
    have hst2 := stt_in hW2 hne2 hSa
    obtain ⟨fw, hfw⟩ : ∃ fw : Nat → Int, fw = fun t => He t + I * Sa t := ⟨_, rfl⟩
    obtain ⟨key, hkey⟩ : ∃ key : Nat → Pq, key = pkey L c c2 He Sa := ⟨_, rfl⟩
    rw [← hkey] at hrep hper
    obtain ⟨t1, t2, ht12, ht2, hk12⟩ := hrep
    have hbound : ∀ t, (∀ j k, j < k → k < t → key j ≠ key k) → t ≤ t2 := fun t hd => by
      rcases Nat.lt_or_ge t2 t with z | z
      · exact absurd hk12 (hd t1 t2 ht12 z)
      · exact z
    have hm1 : 1 ≤ c.length * c2.length := Nat.mul_pos hcn hcn2
    have hm2 : c.length * c2.length ≤ 4 * 4 := Nat.mul_le_mul hc hc2
    obtain ⟨M, hM⟩ : ∃ M, M = c.length * c2.length := ⟨_, rfl⟩
    rw [← hM] at hm1 hm2
    have eM : (((as.map V.ref).length : Nat) : Int) * (((as2.map V.ref).length : Nat) : Int) = (M : Int) := by rw [hal, hal2, hM, Int.natCast_mul]
    have z0 := Sm.zero l0 l1
    refine ⟨_, rfl, r, _, rfl, .inl (.of (s04 _ _ hR.1)), _, rfl, r2, _, rfl, .inl (.of (s04 _ _ hR2.1)), _, _, rfl, rfl, .inl ⟨by omega, by omega⟩, _, _, rfl, rfl, .inl ⟨by rw [eM]; omega, by rw [eM]; omega⟩, _, _, rfl, rfl, (M : Int) * 262144 + 1, congrArg (fun z : Int => [V.int (z * 262144 + 1)]) eM, by omega, by omega, ?_⟩
    refine for_range (lo := 0) (n := ((M : Int) * 262144 + 1).toNat) (fun t σ H' => ∃ (one two : Nat) (na : List Addr) (v14 v15 v16 v17 : Option V), σ = [some (.ref r), some (.ref oa), some (.int L), some (.int I), some (.ref r2), some (.ref oa2), some (.ref Hd), some (.ref Sd), some (.int (stt c He one)), some (.int (stt c2 Sa two)), some (.int (one : Int)), some (.int (two : Int)), some (.ref LT), some (.ref d), v14, v15, v16, v17] ∧ Sm L t one two ∧ en1 L t + en2 L t ≤ one + two + 7 ∧ Same H H' ∧
        H' Hd = some (.lst ((seg He 0 (lnH L two)).map V.int)) ∧ H' Sd = some (.lst ((seg Sa 0 (lnS L one)).map V.int)) ∧ H' LT = some (.lst ((seg fw 0 t).map V.int)) ∧ Dn2.DN P w K H' d (entN kyQ na ((List.range t).map key) 0) ∧ na.length = t ∧ ∀ j k, j < k → k < t → key j ≠ key k)
      ⟨0, 0, [], none, none, none, none, rfl, z0.1, z0.2, s04, eHd4, eSd4, eLT4, ed, rfl, fun j k _ h => absurd h (Nat.not_lt_zero _)⟩ ?_ ?_
    · clear eHd4 eSd4 eLT4 ed s04 z0
      rintro t σ H5 _ ⟨one, two, na, v14, v15, v16, v17, rfl, hSm, hs, s5, eH5, eS5, eL5, ed5, hna, hdis⟩
      have htb := hbound t hdis
      obtain ⟨st, hst0⟩ : ∃ st, st = one + two := ⟨_, rfl⟩
      rw [← hst0] at hs
      refine ⟨_, rfl, by omega, by omega, for_range (lo := 0) (n := (8 : Int).toNat) (fun k σ H' => ∃ (one two : Nat) (v15 v16 : Option V), σ = [some (.ref r), some (.ref oa), some (.int L), some (.int I), some (.ref r2), some (.ref oa2), some (.ref Hd), some (.ref Sd), some (.int (stt c He one)), some (.int (stt c2 Sa two)), some (.int (one : Int)), some (.int (two : Int)), some (.ref LT), some (.ref d), some (.int (0 + (t : Int))), v15, v16, v17] ∧ Sm L t one two ∧ ((t < lnS L one ∧ t < lnH L two) ∨ st + k ≤ one + two) ∧ (∀ b, b ≠ Hd → b ≠ Sd → H' b = H5 b) ∧
          H' Hd = some (.lst ((seg He 0 (lnH L two)).map V.int)) ∧ H' Sd = some (.lst ((seg Sa 0 (lnS L one)).map V.int)))
        ⟨one, two, v15, v16, rfl, hSm, .inr (by omega), fun _ _ _ => rfl, eH5, eS5⟩ ?_ ?_⟩
      · clear hSm hst0 eH5 eS5 v15 v16
        clear one two
        rintro k σ H6 _ ⟨one, two, v15, v16, rfl, hSm, hpr, k6, eH6, eS6⟩
        refine ⟨fun σ H' => ∃ (one : Nat) (v16 : Option V), σ = [some (.ref r), some (.ref oa), some (.int L), some (.int I), some (.ref r2), some (.ref oa2), some (.ref Hd), some (.ref Sd), some (.int (stt c He one)), some (.int (stt c2 Sa two)), some (.int (one : Int)), some (.int (two : Int)), some (.ref LT), some (.ref d), some (.int (0 + (t : Int))), some (.int (0 + (k : Int))), v16, v17] ∧ Sm L t one two ∧ ((t < lnS L one ∧ t < lnH L two) ∨ st + k + 1 ≤ one + two ∨ (st + k ≤ one + two ∧ two < lnS L one)) ∧ (∀ b, b ≠ Hd → b ≠ Sd → H' b = H5 b) ∧
          H' Hd = some (.lst ((seg He 0 (lnH L two)).map V.int)) ∧ H' Sd = some (.lst ((seg Sa 0 (lnS L one)).map V.int)), ?_, ?_⟩
        · have ell : ((((seg He 0 (lnH L two)).map V.int).length : Nat) : Int) = ((lnH L two : Nat) : Int) := by rw [List.length_map, seg_len]
          have els : ((((seg Sa 0 (lnS L one)).map V.int).length : Nat) : Int) = ((lnS L one : Nat) : Int) := by rw [List.length_map, seg_len]
          have hskip : (¬ one < lnH L two ∨ ¬ (lnS L one ≤ t ∨ lnH L two ≤ t)) → ∃ (one' : Nat) (v16' : Option V), [some (.ref r), some (.ref oa), some (.int L), some (.int I), some (.ref r2), some (.ref oa2), some (.ref Hd), some (.ref Sd), some (.int (stt c He one)), some (.int (stt c2 Sa two)), some (.int (one : Int)), some (.int (two : Int)), some (.ref LT), some (.ref d), some (V.int (0 + (t : Int))), some (V.int (0 + (k : Int))), v16, v17] = [some (.ref r), some (.ref oa), some (.int L), some (.int I), some (.ref r2), some (.ref oa2), some (.ref Hd), some (.ref Sd), some (.int (stt c He one')), some (.int (stt c2 Sa two)), some (.int (one' : Int)), some (.int (two : Int)), some (.ref LT), some (.ref d), some (.int (0 + (t : Int))), some (.int (0 + (k : Int))), v16', v17] ∧ Sm L t one' two ∧ ((t < lnS L one' ∧ t < lnH L two) ∨ st + k + 1 ≤ one' + two ∨ (st + k ≤ one' + two ∧ two < lnS L one')) ∧ (∀ b, b ≠ Hd → b ≠ Sd → H6 b = H5 b) ∧
              H6 Hd = some (.lst ((seg He 0 (lnH L two)).map V.int)) ∧ H6 Sd = some (.lst ((seg Sa 0 (lnS L one')).map V.int)) := fun hk => by
            refine ⟨one, v16, rfl, hSm, ?_, k6, eH6, eS6⟩
            by_cases cd : lnS L one ≤ t ∨ lnH L two ≤ t
            · have c1 : ¬ one < lnH L two := hk.elim id fun z => absurd cd z
              exact .inr (.inr ⟨by omega, hSm.go l0 l1 c1 cd⟩)
            · exact .inl (by omega)
          refine ⟨_, rfl, _, rfl, Hd, _, rfl, .inl (.of eH6), _, _, rfl, rfl, _, rfl, ite2 (fun c1 => ?_) (fun c1 => ?_)⟩
          · have c1 : one < lnH L two := by have := of_decide_eq_true c1; rw [ell] at this; omega
            by_cases cd : lnS L one ≤ t ∨ lnH L two ≤ t
            · refine (fun B => ⟨_, rfl, Sd, _, rfl, .inl (.of eS6), _, rfl, _, _, rfl, rfl, _, rfl, ite2 (fun _ => B) (fun e1 => ⟨_, rfl, Hd, _, rfl, .inl (.of eH6), _, rfl, _, _, rfl, rfl, _, rfl, ite2 (fun _ => B) (fun e2 => (cd.elim (fun z => e1 (decide_eq_true (by rw [els]; omega))) (fun z => e2 (decide_eq_true (by rw [ell]; omega)))).elim)⟩)⟩) ?_
              clear hskip
              have s6 : Same H H6 := fun b o hb => by rw [k6 _ (ne_of_none hb nHd0) (ne_of_none hb nSd0)]; exact s5 _ _ hb
              obtain ⟨ra, b, bs, g1, g2, g3, g4, g5⟩ := lpr_cell (hR.same s6) hW (hst one).1 (hst one).2 (hHe one).1 (hHe one).2
              refine ⟨_, rfl, _, rfl, r, _, _, .ref ra, rfl, rfl, .of g1, g2, _, rfl, _, rfl, Hd, _, _, _, rfl, rfl, .of eH6, seg_at c1, ra, _, _, .ref b, rfl, rfl, .of g3, g4, ?_⟩
              refine ⟨_, rfl, b, _, _, _, rfl, rfl, .of g5, rfl, ?_⟩
              refine ⟨fun σ H' => σ = [some (.ref r), some (.ref oa), some (.int L), some (.int I), some (.ref r2), some (.ref oa2), some (.ref Hd), some (.ref Sd), some (.int (stt c He (one + 1))), some (.int (stt c2 Sa two)), some (.int (one : Int)), some (.int (two : Int)), some (.ref LT), some (.ref d), some (.int (0 + (t : Int))), some (.int (0 + (k : Int))), some (.ref b), v17] ∧ (∀ b, b ≠ Hd → b ≠ Sd → H' b = H5 b) ∧ H' Hd = some (.lst ((seg He 0 (lnH L two)).map V.int)) ∧ H' Sd = some (.lst ((seg Sa 0 (lnS L (one + 1))).map V.int)), ?_, ?_⟩
              · refine ⟨_, rfl, _, rfl, _, _, rfl, rfl, _, _, rfl, rfl, _, rfl, ite2 (fun e => ?_) (fun e => ?_)⟩
                · have e : 0 ≤ (one : Int) - L := of_decide_eq_true e
                  obtain ⟨u1, u2⟩ := lnS_up e
                  have hbd : lnS L one ≤ 10000 := by have := hSm.c; unfold en1 at this; unfold lnS; omega
                  refine ⟨_, rfl, .inl ⟨rfl, _, .of eS6⟩, _, rfl, b, _, _, _, rfl, rfl, .of g5, rfl, Sd, _, _, rfl, rfl, eS6, lenI (by rw [seg_len]; omega), rfl, fun b' n1 n2 => ?_, ?_, ?_⟩
                  · rw [upd_ne n2]; exact k6 _ n1 n2
                  · rw [upd_ne nHS]; exact eH6
                  · rw [upd_same, u1, sw_seg, u2, hS one e]
                    rfl
                · have e : ¬ 0 ≤ (one : Int) - L := fun z => e (decide_eq_true z)
                  exact ⟨rfl, k6, eH6, by rw [lnS_no e]; exact eS6⟩
              · rintro σ H7 ⟨rfl, k7, eH7, eS7⟩
                refine ⟨_, rfl, _, _, rfl, rfl, one + 1, some (.ref b), rfl, hSm.s1 l0 l1 c1 cd, ?_, k7, eH7, eS7⟩
                omega
            · refine ⟨_, rfl, Sd, _, rfl, .inl (.of eS6), _, rfl, _, _, rfl, rfl, _, rfl, ite2 (fun e1 => (cd (.inl ?_)).elim) (fun _ => ⟨_, rfl, Hd, _, rfl, .inl (.of eH6), _, rfl, _, _, rfl, rfl, _, rfl, ite2 (fun e2 => (cd (.inr ?_)).elim) (fun _ => hskip (.inr cd))⟩)⟩
              · have := of_decide_eq_true e1; rw [els] at this; omega
              · have := of_decide_eq_true e2; rw [ell] at this; omega
          · refine hskip (.inl fun z => c1 (decide_eq_true ?_))
            rw [ell]; omega
        · clear eH6 eS6 hpr hSm
          clear one
          rintro σ H7 ⟨one, v16, rfl, hSm, hpr, k7, eH7, eS7⟩
          have ell : ((((seg He 0 (lnH L two)).map V.int).length : Nat) : Int) = ((lnH L two : Nat) : Int) := by rw [List.length_map, seg_len]
          have els : ((((seg Sa 0 (lnS L one)).map V.int).length : Nat) : Int) = ((lnS L one : Nat) : Int) := by rw [List.length_map, seg_len]
          have hskip : (¬ two < lnS L one ∨ ¬ (lnS L one ≤ t ∨ lnH L two ≤ t)) → ∃ (one' two' : Nat) (v15' v16' : Option V), [some (.ref r), some (.ref oa), some (.int L), some (.int I), some (.ref r2), some (.ref oa2), some (.ref Hd), some (.ref Sd), some (.int (stt c He one)), some (.int (stt c2 Sa two)), some (.int (one : Int)), some (.int (two : Int)), some (.ref LT), some (.ref d), some (V.int (0 + (t : Int))), some (V.int (0 + (k : Int))), v16, v17] = [some (.ref r), some (.ref oa), some (.int L), some (.int I), some (.ref r2), some (.ref oa2), some (.ref Hd), some (.ref Sd), some (.int (stt c He one')), some (.int (stt c2 Sa two')), some (.int (one' : Int)), some (.int (two' : Int)), some (.ref LT), some (.ref d), some (.int (0 + (t : Int))), v15', v16', v17] ∧ Sm L t one' two' ∧ ((t < lnS L one' ∧ t < lnH L two') ∨ st + (k + 1) ≤ one' + two') ∧ (∀ b, b ≠ Hd → b ≠ Sd → H7 b = H5 b) ∧
              H7 Hd = some (.lst ((seg He 0 (lnH L two')).map V.int)) ∧ H7 Sd = some (.lst ((seg Sa 0 (lnS L one')).map V.int)) := fun hk => by
            refine ⟨one, two, _, v16, rfl, hSm, ?_, k7, eH7, eS7⟩
            by_cases cd : lnS L one ≤ t ∨ lnH L two ≤ t
            · have c1 : ¬ two < lnS L one := hk.elim id fun z => absurd cd z
              exact .inr (by omega)
            · exact .inl (by omega)
          refine ⟨_, rfl, _, rfl, Sd, _, rfl, .inl (.of eS7), _, _, rfl, rfl, _, rfl, ite2 (fun c1 => ?_) (fun c1 => ?_)⟩
          · have c1 : two < lnS L one := by have := of_decide_eq_true c1; rw [els] at this; omega
            by_cases cd : lnS L one ≤ t ∨ lnH L two ≤ t
            · refine (fun B => ⟨_, rfl, Sd, _, rfl, .inl (.of eS7), _, rfl, _, _, rfl, rfl, _, rfl, ite2 (fun _ => B) (fun e1 => ⟨_, rfl, Hd, _, rfl, .inl (.of eH7), _, rfl, _, _, rfl, rfl, _, rfl, ite2 (fun _ => B) (fun e2 => (cd.elim (fun z => e1 (decide_eq_true (by rw [els]; omega))) (fun z => e2 (decide_eq_true (by rw [ell]; omega)))).elim)⟩)⟩) ?_
              clear hskip
              have s7 : Same H H7 := fun b o hb => by rw [k7 _ (ne_of_none hb nHd0) (ne_of_none hb nSd0)]; exact s5 _ _ hb
              obtain ⟨ra, b, bs, g1, g2, g3, g4, g5⟩ := lpr_cell (hR2.same s7) hW2 (hst2 two).1 (hst2 two).2 (hSa two).1 (hSa two).2
              refine ⟨_, rfl, _, rfl, r2, _, _, .ref ra, rfl, rfl, .of g1, g2, _, rfl, _, rfl, Sd, _, _, _, rfl, rfl, .of eS7, seg_at c1, ra, _, _, .ref b, rfl, rfl, .of g3, g4, ?_⟩
              refine ⟨_, rfl, b, _, _, _, rfl, rfl, .of g5, rfl, ?_⟩
              refine ⟨fun σ H' => σ = [some (.ref r), some (.ref oa), some (.int L), some (.int I), some (.ref r2), some (.ref oa2), some (.ref Hd), some (.ref Sd), some (.int (stt c He one)), some (.int (stt c2 Sa (two + 1))), some (.int (one : Int)), some (.int (two : Int)), some (.ref LT), some (.ref d), some (.int (0 + (t : Int))), some (.int (0 + (k : Int))), some (.ref b), v17] ∧ (∀ b, b ≠ Hd → b ≠ Sd → H' b = H5 b) ∧ H' Hd = some (.lst ((seg He 0 (lnH L (two + 1))).map V.int)) ∧ H' Sd = some (.lst ((seg Sa 0 (lnS L one)).map V.int)), ?_, ?_⟩
              · refine ⟨_, rfl, _, _, rfl, rfl, _, rfl, _, _, rfl, rfl, _, _, rfl, rfl, _, rfl, ite2 (fun e => ?_) (fun e => ?_)⟩
                · have e : 0 ≤ (two : Int) + 1 + L := of_decide_eq_true e
                  obtain ⟨u1, u2⟩ := lnH_up e
                  have hbd : lnH L two ≤ 10000 := by have := hSm.d; unfold en2 at this; unfold lnH; omega
                  refine ⟨_, rfl, .inl ⟨rfl, _, .of eH7⟩, _, rfl, b, _, _, _, rfl, rfl, .of g5, rfl, Hd, _, _, rfl, rfl, eH7, lenI (by rw [seg_len]; omega), rfl, fun b' n1 n2 => ?_, ?_, ?_⟩
                  · rw [upd_ne n1]; exact k7 _ n1 n2
                  · rw [upd_same, u1, sw_seg, u2, hH two e]
                    rfl
                  · rw [upd_ne nHS.symm]; exact eS7
                · have e : ¬ 0 ≤ (two : Int) + 1 + L := fun z => e (decide_eq_true z)
                  exact ⟨rfl, k7, by rw [lnH_no e]; exact eH7, eS7⟩
              · rintro σ H8 ⟨rfl, k8, eH8, eS8⟩
                refine ⟨_, rfl, _, _, rfl, rfl, one, two + 1, _, some (.ref b), rfl, hSm.s2 l0 l1 c1 cd, ?_, k8, eH8, eS8⟩
                omega
            · refine ⟨_, rfl, Sd, _, rfl, .inl (.of eS7), _, rfl, _, _, rfl, rfl, _, rfl, ite2 (fun e1 => (cd (.inl ?_)).elim) (fun _ => ⟨_, rfl, Hd, _, rfl, .inl (.of eH7), _, rfl, _, _, rfl, rfl, _, rfl, ite2 (fun e2 => (cd (.inr ?_)).elim) (fun _ => hskip (.inr cd))⟩)⟩
              · have := of_decide_eq_true e1; rw [els] at this; omega
              · have := of_decide_eq_true e2; rw [ell] at this; omega
          · refine hskip (.inl fun z => c1 (decide_eq_true ?_))
            rw [els]; omega
      · rintro σ H6 ⟨one, two, v15, v16, rfl, hSm, hpr, k6, eH6, eS6⟩
        have hdone : t < lnS L one ∧ t < lnH L two := hpr.elim id fun z => (hSm.full l0 l1 hs z).elim
        obtain ⟨rfl, rfl⟩ := hSm.fin l0 l1 hdone.1 hdone.2
        have nHd_ := ndl ed5 eH5
        have nSd_ := ndl ed5 eS5
        have nLd_ := ndl ed5 eL5
        have t56 : ∀ b xs, H5 b = some (.tup xs) → H6 b = some (.tup xs) := fun b xs hb => by rw [k6 _ (fun z => by rw [z, eH5] at hb; cases hb) (fun z => by rw [z, eS5] at hb; cases hb)]; exact hb
        have s6 : Same H H6 := fun b o hb => by rw [k6 _ (ne_of_none hb nHd0) (ne_of_none hb nSd0)]; exact s5 _ _ hb
        have eL6 : H6 LT = some (.lst ((seg fw 0 t).map V.int)) := by rw [k6 _ nHL.symm nSL.symm]; exact eL5
        have ed6 := ed5.keep (H' := H6) (fun o e => by rw [k6 _ nHd_.symm nSd_.symm]; exact e) t56
        clear t56 s5 eL5 ed5 eH5 eS5 k6 hpr hs hst0
        have ell : ((((seg He 0 (lnH L (en2 L t))).map V.int).length : Nat) : Int) = ((lnH L (en2 L t) : Nat) : Int) := by rw [List.length_map, seg_len]
        have els : ((((seg Sa 0 (lnS L (en1 L t))).map V.int).length : Nat) : Int) = ((lnS L (en1 L t) : Nat) : Int) := by rw [List.length_map, seg_len]
        have hkt : key t = (stt c He (en1 L t), stt c2 Sa (en2 L t), seg He t (lnH L (en2 L t) - t), seg Sa t (lnS L (en1 L t) - t), ((lnH L (en2 L t) : Nat) : Int) - ((en1 L t : Nat) : Int), ((lnS L (en1 L t) : Nat) : Int) - ((en2 L t : Nat) : Int)) := by rw [hkey]; rfl
        refine ⟨_, rfl, _, rfl, _, rfl, _, rfl, _, rfl, ?_⟩
        walk_at "nl"
        refine sll_from (n := t) eH6 (Int.zero_add _) (by rw [seg_len]; omega) fun p1 hp1 => ?_
        rw [seg_drop (by omega : t ≤ lnH L (en2 L t))]
        have t1' := same_new (o := .lst ((seg He t (lnH L (en2 L t) - t)).map V.int)) hp1
        have f1 := upd_same (H := H6) (a := p1) (o := .lst ((seg He t (lnH L (en2 L t) - t)).map V.int))
        generalize upd H6 p1 (.lst ((seg He t (lnH L (en2 L t) - t)).map V.int)) = H7 at t1' f1 ⊢
        refine ⟨p1, _, rfl, .inl ⟨.of f1, fun q1 hq1 => ?_⟩⟩
        have t2' := same_new (o := .tup ((seg He t (lnH L (en2 L t) - t)).map V.int)) hq1
        have f2 := upd_same (H := H7) (a := q1) (o := .tup ((seg He t (lnH L (en2 L t) - t)).map V.int))
        generalize upd H7 q1 (.tup ((seg He t (lnH L (en2 L t) - t)).map V.int)) = H8 at t2' f2 ⊢
        have t12' := t1'.trans t2'
        refine ⟨_, rfl, _, rfl, _, rfl, ?_⟩
        walk_at "nl"
        refine sll_from (n := t) (t12' _ _ eS6) (Int.zero_add _) (by rw [seg_len]; omega) fun p2 hp2 => ?_
        rw [seg_drop (by omega : t ≤ lnS L (en1 L t))]
        have t3' := same_new (o := .lst ((seg Sa t (lnS L (en1 L t) - t)).map V.int)) hp2
        have f3 := upd_same (H := H8) (a := p2) (o := .lst ((seg Sa t (lnS L (en1 L t) - t)).map V.int))
        generalize upd H8 p2 (.lst ((seg Sa t (lnS L (en1 L t) - t)).map V.int)) = H9 at t3' f3 ⊢
        refine ⟨p2, _, rfl, .inl ⟨.of f3, fun q2 hq2 => ?_⟩⟩
        have t4' := same_new (o := .tup ((seg Sa t (lnS L (en1 L t) - t)).map V.int)) hq2
        have f4 := upd_same (H := H9) (a := q2) (o := .tup ((seg Sa t (lnS L (en1 L t) - t)).map V.int))
        generalize upd H9 q2 (.tup ((seg Sa t (lnS L (en1 L t) - t)).map V.int)) = HA at t4' f4 ⊢
        have t6A := t12'.trans (t3'.trans t4')
        have f2A := t4' _ _ (t3' _ _ f2)
        refine ⟨_, rfl, Hd, _, rfl, .inl (.of (t6A _ _ eH6)), _, rfl, _, _, rfl, rfl, _, rfl, Sd, _, rfl, .inl (.of (t6A _ _ eS6)), _, rfl, _, _, rfl, rfl, by show 6 ≤ sizeLine; decide, fun N nN => ?_⟩
        have t5' := same_new (o := .tup [.int (stt c He (en1 L t)), .int (stt c2 Sa (en2 L t)), .ref q1, .ref q2, .int ((((((seg He 0 (lnH L (en2 L t))).map V.int).length : Nat) : Int)) - ((en1 L t : Nat) : Int)), .int ((((((seg Sa 0 (lnS L (en1 L t))).map V.int).length : Nat) : Int)) - ((en2 L t : Nat) : Int))]) nN
        have f5 := upd_same (H := HA) (a := N) (o := .tup [.int (stt c He (en1 L t)), .int (stt c2 Sa (en2 L t)), .ref q1, .ref q2, .int ((((((seg He 0 (lnH L (en2 L t))).map V.int).length : Nat) : Int)) - ((en1 L t : Nat) : Int)), .int ((((((seg Sa 0 (lnS L (en1 L t))).map V.int).length : Nat) : Int)) - ((en2 L t : Nat) : Int))])
        generalize upd HA N (.tup [.int (stt c He (en1 L t)), .int (stt c2 Sa (en2 L t)), .ref q1, .ref q2, .int ((((((seg He 0 (lnH L (en2 L t))).map V.int).length : Nat) : Int)) - ((en1 L t : Nat) : Int)), .int ((((((seg Sa 0 (lnS L (en1 L t))).map V.int).length : Nat) : Int)) - ((en2 L t : Nat) : Int))]) = HB at t5' f5 ⊢
        rw [ell, els] at f5
        have t6B := t6A.trans t5'
        have ek : Dn2.NkV K HB (kyQ (key t)) (.ref N) := by rw [hkt]; exact nk_q f5 (t5' _ _ f2A) (t5' _ _ f4)
        have sB := s6.trans t6B
        have eHB := t6B _ _ eH6
        have eSB := t6B _ _ eS6
        have eLB := t6B _ _ eL6
        have edB := ed6.same t6B
        clear t6B t5' f5 t6A f2A f4 t4' f3 t3' t12' f2 t2' f1 t1' s6 eH6 eS6 eL6 ed6
        have hnl : na.length = ((List.range t).map key).length := by rw [List.length_map, List.length_range, hna]
        refine ⟨_, rfl, _, rfl, d, _, rfl, dn_get kyQ_ky edB hnl ek, _, rfl, ?_⟩
        by_cases cc : key t ∈ (List.range t).map key
        · have hg := dn_get kyQ_ky edB hnl ek
          rw [if_pos cc] at hg ⊢
          obtain ⟨hj, hjj⟩ := idx_map cc
          generalize ((List.range t).map key).idxOf (key t) = j at hg hj hjj ⊢
          have hp := hper j t hj hjj
          refine iteB_t rfl ?_
          refine ⟨_, rfl, _, rfl, _, rfl, d, VN j, rfl, hg, _, rfl, ?_⟩
          walk_at "nl"
          refine sll_to (n := j) eLB rfl fun p1 hp1 => ?_
          have g1 := same_new (o := .lst (((seg fw 0 t).take j).map V.int)) hp1
          have r1 := upd_same (H := HB) (a := p1) (o := .lst (((seg fw 0 t).take j).map V.int))
          generalize upd HB p1 (.lst (((seg fw 0 t).take j).map V.int)) = HC at g1 r1 ⊢
          refine ⟨p1, _, rfl, .inl ⟨.of r1, fun q3 hq3 => ?_⟩⟩
          have g2 := same_new (o := .tup (((seg fw 0 t).take j).map V.int)) hq3
          have r2' := upd_same (H := HC) (a := q3) (o := .tup (((seg fw 0 t).take j).map V.int))
          generalize upd HC q3 (.tup (((seg fw 0 t).take j).map V.int)) = HD at g2 r2' ⊢
          have g12 := g1.trans g2
          refine ⟨_, rfl, _, rfl, _, rfl, d, VN j, rfl, dgn_same g12 hg, _, rfl, ?_⟩
          walk_at "nl"
          refine sll_from (n := j) (g12 _ _ eLB) rfl (by rw [seg_len]; omega) fun p3 hp3 => ?_
          have g3 := same_new (o := .lst (((seg fw 0 t).drop j).map V.int)) hp3
          have r3 := upd_same (H := HD) (a := p3) (o := .lst (((seg fw 0 t).drop j).map V.int))
          generalize upd HD p3 (.lst (((seg fw 0 t).drop j).map V.int)) = HE at g3 r3 ⊢
          refine ⟨p3, _, rfl, .inl ⟨.of r3, fun q4 hq4 => ?_⟩⟩
          have g4 := same_new (o := .tup (((seg fw 0 t).drop j).map V.int)) hq4
          have r4 := upd_same (H := HE) (a := q4) (o := .tup (((seg fw 0 t).drop j).map V.int))
          generalize upd HE q4 (.tup (((seg fw 0 t).drop j).map V.int)) = HF at g4 r4 ⊢
          refine ⟨by show 2 ≤ sizeLine; decide, fun pt hpt => ?_⟩
          have g5 := same_new (o := .tup [.ref q3, .ref q4]) hpt
          have el1 : ((seg fw 0 t).take j).length = j := by rw [List.length_take, seg_len]; omega
          have el2 : ((seg fw 0 t).drop j).length = t - j := by rw [List.length_drop, seg_len]
          refine q _ pt _ _ (sB.trans (g12.trans (g3.trans (g4.trans g5)))) ⟨q3, q4, upd_same, g5 _ _ (g4 _ _ (g3 _ _ r2')), g5 _ _ r4⟩ (fun y => ?_) (fun n => ?_) (by omega) (by omega)
          · rw [y] at el2
            have : (0 : Nat) = t - j := el2
            omega
          · rw [cut_per hj (fun n hn => by rw [hfw]; exact hp n hn), hfw]
        · rw [if_neg cc]
          refine iteB_f rfl ?_
          have hdis' : ∀ j k, j < k → k < t + 1 → key j ≠ key k := fun j k h1 h2 => by
            rcases Nat.lt_or_ge k t with y | y
            · exact hdis j k h1 y
            · have : k = t := by omega
              subst this
              exact fun z => cc (List.mem_map.mpr ⟨j, List.mem_range.mpr h1, z⟩)
          refine ⟨_, rfl, _, rfl, _, rfl, d, rfl, _, kyQ (key t), N, edB, rfl, ek, kyQ_ky.dep _, by rw [entN_len hnl, List.length_map, List.length_range]; exact Nat.lt_of_le_of_lt (show t ≤ 10000 by omega) (by decide), fun HC k1 _ DC => ?_⟩
          have evn : V.int (0 + (t : Int)) = VN ((List.range t).map key).length := by rw [List.length_map, List.length_range, Int.zero_add]
          rw [evn, entN_put kyQ_ky hnl cc] at DC
          have ndd : ∀ {b : Addr} {xs : List V}, HB b = some (.lst xs) → HC b = some (.lst xs) := fun hb => by
            rw [k1 _ (ndl edB hb)]
            exact hb
          have eHC := ndd eHB
          have eSC := ndd eSB
          have eLC := ndd eLB
          have sC : Same H HC := fun b o hb => by rw [k1 _ (ne_of_none hb nd0)]; exact sB _ _ hb
          refine ⟨_, rfl, .inl ⟨rfl, _, .of eLC⟩, _, rfl, _, rfl, Hd, _, _, _, rfl, rfl, .of eHC, by rw [Int.zero_add]; exact seg_at hdone.2, _, rfl, _, rfl, _, rfl, Sd, _, _, _, rfl, rfl, .of eSC, by rw [Int.zero_add]; exact seg_at hdone.1, _, _, rfl, rfl, .inl ⟨by omega, by omega⟩, _, _, rfl, rfl, LT, _, _, rfl, rfl, eLC, lenI (by rw [seg_len]; omega), ?_⟩
          have nx := Sm.next (t := t) l0 l1
          refine ⟨en1 L t, en2 L t, na ++ [N], _, _, _, _, rfl, nx.1, nx.2, fun b o hb => by rw [upd_ne (ne_of_none hb nLT0)]; exact sC _ _ hb, by rw [upd_ne nHL]; exact eHC, by rw [upd_ne nSL]; exact eSC, by rw [upd_same, sw_seg, hfw], ?_, by rw [List.length_append, hna]; rfl, hdis'⟩
          rw [List.range_succ, List.map_append]
          exact DC.keep (fun o e => by rw [upd_ne (ndl edB eLB).symm]; exact e) (tup_upd eLC)
    · rintro σ H5 ⟨one, two, na, v14, v15, v16, v17, rfl, hSm, hs, s5, eH5, eS5, eL5, ed5, hna, hdis⟩
      have := hbound _ hdis
      omega
theorem wat_map40 {h l : List Int} (hne : l ≠ []) (g : Int → Int) (t : Nat) : wat (h.map g) (l.map g) t = g (wat h l t) := by
  have hl := List.length_pos_iff.mpr hne
  unfold wat
  rw [List.length_map, List.length_map]
  by_cases c : t < h.length
  · rw [if_pos c, if_pos c, List.getD_eq_getElem?_getD, List.getD_eq_getElem?_getD, List.getElem?_map, List.getElem?_eq_getElem c]
    rfl
  · rw [if_neg c, if_neg c, List.getD_eq_getElem?_getD, List.getD_eq_getElem?_getD, List.getElem?_map, List.getElem?_eq_getElem (Nat.mod_lt _ hl)]
    rfl
def spTurn : Sp := fun vs H Q _ => ∃ (p : Addr) (I O : Int) (h l : List Int), vs = [.ref p, .int I, .int O] ∧ Las H p h l ∧ h.length ≤ 1000 ∧ l.length ≤ 1000 ∧ 1 ≤ I ∧ I ≤ 3 ∧ 1 ≤ O ∧ O ≤ 3 ∧
  ∀ (H' : Hp) (p' : Addr), Same H H' → Las H' p' (h.map fun z => z / I + O * (z % I)) (l.map fun z => z / I + O * (z % I)) → Q (.ref p') H'
theorem cal_turn (T : Txt K mg) : C8.Cal P w K mg base 1 "_law_turn_letters" spTurn [] := by
  obtain ⟨f, fd, F, hm, hb⟩ := T.h_law_turn_letters
  refine ⟨f, fd, _, [], F.ok sc_law_turn_letters (fun vs H Q E h => ?_) (fun cdv A outer s H vs Q E hr h => ?_), hm, F.kp, hb, .nil⟩
  · obtain ⟨p, I, O, h, l, rfl, _⟩ := h
    rfl
  · obtain ⟨p, I, O, h, l, rfl, hL, hh, hl, i0, i1, o0, o1, q⟩ := h
    obtain ⟨g, hg⟩ : ∃ g : Int → Int, g = fun z => z / I + O * (z % I) := ⟨_, rfl⟩
    rw [← hg] at q
    obtain ⟨a, b, e1, e2, e3⟩ := id hL
    refine ⟨_, (pss_cons
      (ps_setLc (i := 3) (own := [("letter", 5)]) (g := gName 5) (tt := tYes) rfl sc_law_turn_letters.nd rfl rfl (sw_true rfl rfl rfl (by decide +kernel)) (pi_tup (pe_ix (ix_tupK (K := K) rfl) (pv 0) pe_int (fun _ _ => rfl))) (blkOk_by (N := N_law_turn_letters) (sc := defScope s_law_turn_letters) (by decide +kernel)) (fun _ _ _ _ _ => (pg_name (i := 5) sc_law_turn_letters.nd rfl (Or.inl rfl))) (fun _ _ _ _ _ => pts_nil) (fun _ _ _ _ _ => (pe_op op_add (pe_op op_fdiv (pv 5) (pv 1)) (pe_op op_mul (pv 2) (pe_op op_mod (pv 5) (pv 1))))))
      (pss_cons
      (ps_setLc (i := 4) (own := [("letter", 5)]) (g := gName 5) (tt := tYes) rfl sc_law_turn_letters.nd rfl rfl (sw_true rfl rfl rfl (by decide +kernel)) (pi_tup (pe_ix (ix_tupK (K := K) rfl) (pv 0) pe_int (fun _ _ => rfl))) (blkOk_by (N := N_law_turn_letters) (sc := defScope s_law_turn_letters) (by decide +kernel)) (fun _ _ _ _ _ => (pg_name (i := 5) sc_law_turn_letters.nd rfl (Or.inl rfl))) (fun _ _ _ _ _ => pts_nil) (fun _ _ _ _ _ => (pe_op op_add (pe_op op_fdiv (pv 5) (pv 1)) (pe_op op_mul (pv 2) (pe_op op_mod (pv 5) (pv 1))))))
      (pss_one
      (ps_ret (pe_tup (pa_cons (pe_callTy (call_tuple_ofK (K := K) rfl) (by rfl) T.z_tuple (by decide +kernel) (pa_cons (pv 3) pa_nil)) (pa_cons (pe_callTy (call_tuple_ofK (K := K) rfl) (by rfl) T.z_tuple (by decide +kernel) (pa_cons (pv 4) pa_nil)) pa_nil))))))), ?_⟩
    refine ⟨_, rfl, p, _, _, .ref a, rfl, rfl, .of e1, rfl, a, rfl, ⟨_, .of e2⟩, fun D hD => lc_tup (K := K) (a := a) (xs := h.map V.int) (fun i H' => Same H H' ∧ H' D = some (.lst (((h.take i).map g).map V.int))) ⟨same_new hD, upd_same⟩ (fun i H' _ z => .of (z.1 _ _ e2)) ?_ ?_⟩
    · rintro i v H1 hi ⟨s1, eD⟩
      obtain ⟨z, hz, rfl⟩ := ints_get hi
      refine ⟨rfl, _, rfl, _, rfl, _, _, rfl, rfl, ⟨(show (0 : Int) < I by omega), (show I < 1073741824 by omega)⟩, _, rfl, _, rfl, _, rfl, _, _, rfl, rfl, (show (0 : Int) < I by omega), _, _, rfl, rfl, .inl ⟨by omega, by omega⟩, _, _, rfl, rfl, _, eD, lenI (by rw [List.length_map, List.length_take]; omega), fun c o hc => by rw [upd_ne (ne_of_none hc hD)]; exact s1 _ _ hc, ?_⟩
      rw [upd_same, take_get hz, List.map_append, List.map_append]
      rw [hg]
      rfl
    rintro H1 ⟨s1, eD⟩
    rw [List.length_map, List.take_length] at eD
    clear hD
    refine ⟨_, rfl, p, _, _, .ref b, rfl, rfl, .of (s1 _ _ e1), rfl, b, rfl, ⟨_, .of (s1 _ _ e3)⟩, fun D2 hD2 => lc_tup (K := K) (a := b) (xs := l.map V.int) (fun i H' => Same H1 H' ∧ H' D2 = some (.lst (((l.take i).map g).map V.int))) ⟨same_new hD2, upd_same⟩ (fun i H' _ z => .of (z.1 _ _ (s1 _ _ e3))) ?_ ?_⟩
    · rintro i v H2 hi ⟨s2, eD2⟩
      obtain ⟨z, hz, rfl⟩ := ints_get hi
      refine ⟨rfl, _, rfl, _, rfl, _, _, rfl, rfl, ⟨(show (0 : Int) < I by omega), (show I < 1073741824 by omega)⟩, _, rfl, _, rfl, _, rfl, _, _, rfl, rfl, (show (0 : Int) < I by omega), _, _, rfl, rfl, .inl ⟨by omega, by omega⟩, _, _, rfl, rfl, _, eD2, lenI (by rw [List.length_map, List.length_take]; omega), fun c o hc => by rw [upd_ne (ne_of_none hc hD2)]; exact s2 _ _ hc, ?_⟩
      rw [upd_same, take_get hz, List.map_append, List.map_append]
      rw [hg]
      rfl
    rintro H2 ⟨s2, eD2⟩
    rw [List.length_map, List.take_length] at eD2
    refine ⟨_, rfl, D, _, rfl, .inl ⟨.of (s2 _ _ eD), fun q1 hq1 => ?_⟩⟩
    have t1 := same_new (o := .tup ((h.map g).map V.int)) hq1
    have f1 := upd_same (H := H2) (a := q1) (o := .tup ((h.map g).map V.int))
    generalize upd H2 q1 (.tup ((h.map g).map V.int)) = H3 at t1 f1 ⊢
    refine ⟨_, rfl, D2, _, rfl, .inl ⟨.of (t1 _ _ eD2), fun q2 hq2 => ?_⟩⟩
    have t2 := same_new (o := .tup ((l.map g).map V.int)) hq2
    have f2 := upd_same (H := H3) (a := q2) (o := .tup ((l.map g).map V.int))
    generalize upd H3 q2 (.tup ((l.map g).map V.int)) = H4 at t2 f2 ⊢
    refine ⟨by show 2 ≤ sizeLine; decide, fun pt npt => ?_⟩
    have t3 := same_new (o := .tup [.ref q1, .ref q2]) npt
    exact q _ pt (s1.trans (s2.trans (t1.trans (t2.trans t3)))) ⟨q1, q2, upd_same, t3 _ _ (t2 _ _ f1), t3 _ _ f2⟩
def spOutp (C : Addr) : Sp := fun vs H Q _ => ∃ (x y : Addr) (I O L I2 O2 L2 : Int) (op op2 : List Int) (c c2 : List (List (Int × Int))), vs = [.ref x, .ref y] ∧ MchAt C H x I O L op c ∧ Vm I O L op c ∧ MchAt C H y I2 O2 L2 op2 c2 ∧ Vm I2 O2 L2 op2 c2 ∧ c.length ≤ 4 ∧ c2.length ≤ 4 ∧
  (¬ (L2 = -1 - L ∧ I2 = O ∧ O2 = I) → ∀ H', Same H H' → Q .non H') ∧
  (L2 = -1 - L → I2 = O → O2 = I → I ≤ 3 ∧ O ≤ 3 ∧ ∀ (H' : Hp) (p : Addr) (h l : List Int), Same H H' → Las H' p h l → Nrm h l → (∀ t, wat h l t = plW I L c op c2 op2 t) → h.length ≤ 432 → l.length ≤ 432 → Q (.ref p) H')
theorem cal_outp {C cX : Addr} (T : Txt K mg) (eX : ErrC K mg "Mismatch" cX) (PC : MchC K C) : C8.Cal P w K mg base 4 "_law_outcome" (spOutp C) [] := by
  have X_play : CalX P w K mg base 3 "play" (spPlay C cX) := cal_play T eX PC
  obtain ⟨f, fd, F, hm, hb⟩ := T.h_law_outcome
  refine ⟨f, fd, _, [], F.ok sc_law_outcome (fun vs H Q E h => ?_) (fun cdv A outer s H vs Q E hr h => ?_), hm, F.kp, hb, .nil⟩
  · obtain ⟨x, y, I, O, L, I2, O2, L2, op, op2, c, c2, rfl, _⟩ := h
    rfl
  · obtain ⟨x, y, I, O, L, I2, O2, L2, op, op2, c, c2, rfl, hA, hV, hB, hU, hc, hc2, q1, q2⟩ := h
    refine ⟨_, (pss_one
      (ps_try_only rfl rfl ⟨rfl, by decide, .inl eX.g⟩ takes0 (fun W pn xe tk _ => (pss_one (ps_ret (pe_cx X_play hr (by decide) tk (by rfl) (pa_cons (pv 0) (pa_cons (pv 1) pa_nil)))))) (fun a oe cls d pn hz hf => (pss_one
      (ps_ret pe_non))))), ?_⟩
    refine ⟨_, rfl, _, rfl, x, y, I, O, L, I2, O2, L2, op, op2, c, c2, rfl, hA, hV, hB, hU, hc, hc2, fun hbad H2 s2 => ⟨true, eX.me, fun _ a ha => ?_, fun y => by (cases y)⟩, fun a b d => ?_⟩
    · exact q1 hbad H2 s2
    · obtain ⟨u1, u2, u3⟩ := q2 a b d
      exact ⟨u1, u2, u3⟩
section
variable {c c2 : List (List (Int × Int))} {op op2 : List Int} {I O L : Int}
theorem seg_one {f : Nat → Int} {t : Nat} : seg f t 1 = [f t] := rfl
theorem pkey_pos (hL : 0 ≤ L) (ho : (op2.length : Int) = L + 1) (t : Nat) : pkey L c c2 (pX c c2 op2) (pY c c2 op2) t = ((pcf c c2 op2 (t + 1)).1, (pcf c c2 op2 t).2.1, (pcf c c2 op2 t).2.2, [pY c c2 op2 t], 0, 1) := by
  have hne : op2 ≠ [] := fun z => by rw [z] at ho; simp at ho; omega
  unfold pkey
  have a1 : en1 L t = t + 1 + (op2.length - 1) := by unfold en1; omega
  have a2 : en2 L t = t := by unfold en2; omega
  have a3 : lnH L (en2 L t) - t = op2.length := by rw [a2]; unfold lnH; omega
  have a4 : lnS L (en1 L t) - t = 1 := by rw [a1]; unfold lnS; omega
  have a5 : ((lnH L (en2 L t) : Nat) : Int) - ((en1 L t : Nat) : Int) = 0 := by rw [a2, a1]; unfold lnH; omega
  have a6 : ((lnS L (en1 L t) : Nat) : Int) - ((en2 L t : Nat) : Int) = 1 := by rw [a2, a1]; unfold lnS; omega
  rw [a5, a6, a3, a4, a1, a2, ← pcf_here hne (t + 1), ← pcf_there t, ← pcf_seg hne t, seg_one]
theorem pkey_neg (hL : ¬ 0 ≤ L) (ho : (op.length : Int) = -L) (t : Nat) : pkey L c c2 (pY c2 c op) (pX c2 c op) t = ((pcf c2 c op t).2.1, (pcf c2 c op (t + 1)).1, [pY c2 c op t], (pcf c2 c op t).2.2, 1, 0) := by
  have hne : op ≠ [] := fun z => by rw [z] at ho; simp at ho; omega
  unfold pkey
  have a1 : en1 L t = t := by unfold en1; omega
  have a2 : en2 L t = t + 1 + (op.length - 1) := by unfold en2; omega
  have a3 : lnH L (en2 L t) - t = 1 := by rw [a2]; unfold lnH; omega
  have a4 : lnS L (en1 L t) - t = op.length := by rw [a1]; unfold lnS; omega
  have a5 : ((lnH L (en2 L t) : Nat) : Int) - ((en1 L t : Nat) : Int) = 1 := by rw [a2, a1]; unfold lnH; omega
  have a6 : ((lnS L (en1 L t) : Nat) : Int) - ((en2 L t : Nat) : Int) = 0 := by rw [a2, a1]; unfold lnS; omega
  rw [a5, a6, a3, a4, a1, a2, ← pcf_here hne (t + 1), ← pcf_there t, ← pcf_seg hne t, seg_one]
theorem hpin40 {L1 L2 : Int} {op1 : List Int} (hV : Vm I O L1 op1 c) (hU : Vm O I L2 op2 c2) (hop : op2 ≠ []) : ∀ i, Pin I c.length c2.length op2.length (pcf c c2 op2 i)
  | 0 => by
    have n1 : 0 < c.length := List.length_pos_iff.mpr hV.ne
    have n2 : 0 < c2.length := List.length_pos_iff.mpr hU.ne
    exact ⟨rst_in ⟨hV.w, hV.st⟩ op2.dropLast 0 (Int.le_refl 0) (by omega) (fun z hz => hU.op_in z (by rw [List.dropLast_eq_take] at hz; exact List.mem_of_mem_take hz)), ⟨Int.le_refl 0, by show (0 : Int) < _; omega⟩, hU.op_in, rfl⟩
  | i + 1 => (pin_next ⟨hV.w, hV.st⟩ ⟨hU.w, hU.st⟩ hV.em hU.em (List.length_pos_iff.mpr hop) (hpin40 hV hU hop i)).1
theorem pin_xy {L1 L2 : Int} {op1 : List Int} (hV : Vm I O L1 op1 c) (hU : Vm O I L2 op2 c2) (hop : op2 ≠ []) (n : Nat) : (0 ≤ pX c c2 op2 n ∧ pX c c2 op2 n < I) ∧ 0 ≤ pY c c2 op2 n ∧ pY c c2 op2 n < O := by
  have hp := hpin40 hV hU hop n
  have hl := List.length_pos_iff.mpr hop
  refine ⟨hp.w _ (lw_mem (by rw [hp.l]; exact hl)), (pin_next ⟨hV.w, hV.st⟩ ⟨hU.w, hU.st⟩ hV.em hU.em hl hp).2⟩
theorem pcf_rep {L1 L2 : Int} {op1 : List Int} (hV : Vm I O L1 op1 c) (hU : Vm O I L2 op2 c2) (hop : op2 ≠ []) (hI : I ≤ 3) (hc : c.length ≤ 4) (hc2 : c2.length ≤ 4) : ∃ t1 t2, t1 < t2 ∧ t2 ≤ 5000 ∧ pcf c c2 op2 t1 = pcf c c2 op2 t2 := by
  refine Classical.byContradiction fun hn => ?_
  have hd : ∀ j k, j < k → k < 433 → pcf c c2 op2 j ≠ pcf c c2 op2 k := fun j k h1 h2 z => hn ⟨j, k, h1, by omega, z⟩
  have h3 : op2.length ≤ 3 := by have := hU.op_len; have := hU.l0; omega
  have := pin_cnt hI hc hc2 h3 (fun j _ => hpin40 hV hU hop j) hd
  omega
/-- all that the law needs to know of a play -/
structure Plk (I O L : Int) (op op2 : List Int) (c c2 : List (List (Int × Int))) (He Sa : Nat → Int) : Prop where
  he : ∀ n, 0 ≤ He n ∧ He n < I
  sa : ∀ n, 0 ≤ Sa n ∧ Sa n < O
  hH : ∀ n : Nat, 0 ≤ (n : Int) + 1 + L → He ((n : Int) + 1 + L).toNat = emt c2 Sa n
  hS : ∀ n : Nat, 0 ≤ (n : Int) - L → Sa ((n : Int) - L).toNat = emt c He n
  o2 : op2 = seg He 0 (lnH L 0)
  o1 : op = seg Sa 0 (lnS L 0)
  rep : ∃ t1 t2, t1 < t2 ∧ t2 ≤ 5000 ∧ pkey L c c2 He Sa t1 = pkey L c c2 He Sa t2
  per : ∀ j t, j < t → pkey L c c2 He Sa j = pkey L c c2 He Sa t → ∀ n, j ≤ n → He (n + (t - j)) = He n ∧ Sa (n + (t - j)) = Sa n
theorem plk_of (hV : Vm I O L op c) (hU : Vm O I (-1 - L) op2 c2) (hI : I ≤ 3) (hO : O ≤ 3) (hc : c.length ≤ 4) (hc2 : c2.length ≤ 4) : Plk I O L op op2 c c2 (plH L c op c2 op2) (plS L c op c2 op2) := by
  have h1 := hV.op_len
  have h2 := hU.op_len
  by_cases hL : 0 ≤ L
  · have eH : plH L c op c2 op2 = pX c c2 op2 := if_pos hL
    have eS : plS L c op c2 op2 = pY c c2 op2 := if_pos hL
    rw [eH, eS]
    have ho : (op2.length : Int) = L + 1 := by omega
    have hne : op2 ≠ [] := fun z => by rw [z] at ho; simp at ho; omega
    have hop : op = [] := List.length_eq_zero_iff.mp (by omega)
    refine ⟨fun n => (pin_xy hV hU hne n).1, fun n => (pin_xy hV hU hne n).2, fun n hn => ?_, fun n hn => ?_, ?_, ?_, ?_, fun j t hj he n hn => ?_⟩
    · rw [← pX_emt hne, show ((n : Int) + 1 + L).toNat = n + op2.length by omega]
    · rw [pY_emt hne, show ((n : Int) - L).toNat + (op2.length - 1) = n by omega]
    · rw [show lnH L 0 = op2.length by unfold lnH; omega]
      exact pcf_seg (cR := c) (cS := c2) hne 0
    · rw [hop, show lnS L 0 = 0 by unfold lnS; omega]
      rfl
    · obtain ⟨t1, t2, u1, u2, u3⟩ := pcf_rep hV hU hne hI hc hc2
      have k := pk_of u3
      refine ⟨t1, t2, u1, u2, ?_⟩
      rw [pkey_pos hL ho, pkey_pos hL ho, k.a, k.b, k.w, k.y]
    · rw [pkey_pos hL ho, pkey_pos hL ho] at he
      injection he with y1 he
      injection he with y2 he
      injection he with y3 he
      injection he with y4 he
      exact pk_per hj ⟨y1, y2, y3, (List.cons.inj y4).1⟩ n hn
  · have eH : plH L c op c2 op2 = pY c2 c op := if_neg hL
    have eS : plS L c op c2 op2 = pX c2 c op := if_neg hL
    rw [eH, eS]
    have ho : (op.length : Int) = -L := by omega
    have hne : op ≠ [] := fun z => by rw [z] at ho; simp at ho; omega
    have hop : op2 = [] := List.length_eq_zero_iff.mp (by omega)
    refine ⟨fun n => (pin_xy hU hV hne n).2, fun n => (pin_xy hU hV hne n).1, fun n hn => ?_, fun n hn => ?_, ?_, ?_, ?_, fun j t hj he n hn => ?_⟩
    · rw [pY_emt hne, show ((n : Int) + 1 + L).toNat + (op.length - 1) = n by omega]
    · rw [← pX_emt hne, show ((n : Int) - L).toNat = n + op.length by omega]
    · rw [hop, show lnH L 0 = 0 by unfold lnH; omega]
      rfl
    · rw [show lnS L 0 = op.length by unfold lnS; omega]
      exact pcf_seg (cR := c2) (cS := c) hne 0
    · obtain ⟨t1, t2, u1, u2, u3⟩ := pcf_rep hU hV hne hO hc2 hc
      have k := pk_of u3
      refine ⟨t1, t2, u1, u2, ?_⟩
      rw [pkey_neg hL ho, pkey_neg hL ho, k.a, k.b, k.w, k.y]
    · rw [pkey_neg hL ho, pkey_neg hL ho] at he
      injection he with y2 he
      injection he with y1 he
      injection he with y4 he
      injection he with y3 he
      have := pk_per hj ⟨y1, y2, y3, (List.cons.inj y4).1⟩ n hn
      exact ⟨this.2, this.1⟩
/-- what the machine answers to what it hears is what it says -/
theorem plk_resp {He Sa : Nat → Int} (hV : Vm I O L op c) (h : Plk I O L op op2 c c2 He Sa) (n : Nat) : sd0 op (emt c He) ((max 0 L).toNat + n) = Sa n := by
  have h1 := hV.op_len
  unfold sd0
  by_cases q : (max 0 L).toNat + n < op.length
  · rw [if_pos q, List.getD_eq_getElem?_getD, h.o1, seg_get (by unfold lnS; omega), show (max 0 L).toNat + n = n by omega, Nat.zero_add]
    rfl
  · rw [if_neg q, ← h.hS _ (by omega), show (((((max 0 L).toNat + n - op.length : Nat) : Int)) - L).toNat = n by omega]
theorem plH_swap : plH (-1 - L) c2 op2 c op = plS L c op c2 op2 := by
  unfold plH plS
  by_cases hL : 0 ≤ L
  · rw [if_neg (by omega), if_pos hL]
  · rw [if_pos (by omega), if_neg hL]
theorem plS_swap : plS (-1 - L) c2 op2 c op = plH L c op c2 op2 := by
  unfold plH plS
  by_cases hL : 0 ≤ L
  · rw [if_neg (by omega), if_pos hL]
  · rw [if_pos (by omega), if_neg hL]
end
theorem wat_of {h l : List Int} {z : Int} (hz : z ∈ h ∨ z ∈ l) : ∃ t, wat h l t = z := by
  rcases hz with y | y
  · obtain ⟨j, hj⟩ := List.mem_iff_getElem?.mp y
    have hl := (List.getElem?_eq_some_iff.mp hj).1
    refine ⟨j, ?_⟩
    unfold wat
    rw [if_pos hl, List.getD_eq_getElem?_getD, hj]
    rfl
  · obtain ⟨j, hj⟩ := List.mem_iff_getElem?.mp y
    have hl := (List.getElem?_eq_some_iff.mp hj).1
    refine ⟨h.length + j, ?_⟩
    unfold wat
    rw [if_neg (by omega), Nat.add_sub_cancel_left, Nat.mod_eq_of_lt hl, List.getD_eq_getElem?_getD, hj]
    rfl
theorem at6 {k : Int} (h0 : 0 ≤ k) (h1 : k < 6) : atI [V.int (-3), V.int (-2), V.int (-1), V.int 0, V.int 1, V.int 2] k = some (.int (k - 3)) := by
  rcases (show k = 0 ∨ k = 1 ∨ k = 2 ∨ k = 3 ∨ k = 4 ∨ k = 5 by omega) with rfl | rfl | rfl | rfl | rfl | rfl <;> rfl
theorem ok_law {f : Addr} {fd : FuncData} (F : L2.Fun K "law" "law" s_law f fd) (T : Txt K mg) : FnOk P w K mg base CX0 8 f fd ["script"] (spLaw K) := by
  obtain ⟨cX, cI, cL, C, fI, fC, fdI, fdC, tk1, tk2, eX, eI, eL, PC, hM, gC, F0, hB, CO, F1, hB1, gLL, gGL, gM⟩ := T.er
  have MK : MakX P w K mg base 2 "Machine" C (spInitM C cI) := ⟨fI, fdI, _, hM, ok_initM T eI PC gLL gGL F0, gC, hB⟩
  have C_law_draws : C8.Cal P w K mg base 1 "_law_draws" (spDraws K) [] := cal_draws T
  have C_law_take : C8.Cal P w K mg base 1 "_law_take" spTake [] := cal_take T
  have C_law_machine : C8.Cal P w K mg base 2 "_law_machine" spMach [] := cal_mach T
  have C_law_flat : C8.Cal P w K mg base 1 "_law_flat" spFlatM [] := cal_flatM T
  have C_law_outcome : C8.Cal P w K mg base 4 "_law_outcome" (spOutp C) [] := cal_outp T eX PC
  have C_law_is_lasso : C8.Cal P w K mg base 3 "_law_is_lasso" spIsLasso [] := cal_islasso T
  have C_law_same : C8.Cal P w K mg base 2 "_law_same" spSame [] := cal_same T
  have C_law_play : C8.Cal P w K mg base 1 "_law_play" spLplay [] := cal_lplay T
  have C_law_turn_letters : C8.Cal P w K mg base 1 "_law_turn_letters" spTurn [] := cal_turn T
  have X_trace : CalX P w K mg base 5 "trace" (spTrace C cL) := cal_trace T eL PC gM
  refine F.ok sc_law (fun vs H Q E h => ?_) (fun cdv A outer s H vs Q E hr h => ?_)
  · obtain ⟨a, ns, rfl, _⟩ := h
    rfl
  · obtain ⟨sa, ns, rfl, hS, hlen, q⟩ := h
    refine ⟨_, (pss_cons
      (ps_set (i := 1) sc_law.nd rfl (Or.inl rfl) (C8.pe_c C_law_draws hr (by decide) (by rfl) (pa_cons (pv 0) (pa_cons pe_int pa_nil))))
      (pss_cons
      (ps_set (i := 2) sc_law.nd rfl (Or.inr rfl) (pe_op op_add pe_int (C8.pe_c C_law_take hr (by decide) (by rfl) (pa_cons (pv 1) (pa_cons pe_int pa_nil)))))
      (pss_cons
      (ps_set (i := 3) sc_law.nd rfl (Or.inl rfl) (pe_op op_add pe_int (C8.pe_c C_law_take hr (by decide) (by rfl) (pa_cons (pv 1) (pa_cons pe_int pa_nil)))))
      (pss_cons
      (ps_set (i := 4) sc_law.nd rfl (Or.inl rfl) (pe_op op_sub (C8.pe_c C_law_take hr (by decide) (by rfl) (pa_cons (pv 1) (pa_cons pe_int pa_nil))) pe_int))
      (pss_cons
      (ps_asg (C8.pe_c C_law_machine hr (by decide) (by rfl) (pa_cons (pv 1) (pa_cons (pv 2) (pa_cons (pv 3) (pa_cons (pv 4) (pa_cons pe_int pa_nil)))))) (pg_tup (by rfl) (pgs_cons (pg_name (i := 5) sc_law.nd rfl (.inl rfl)) (pgs_cons (pg_name (i := 6) sc_law.nd rfl (.inl rfl)) pgs_nil))))
      (pss_cons
      (ps_set (i := 7) sc_law.nd rfl (Or.inl rfl) (pe_makeN MK hr (by decide) (by rfl) (pa_cons (pv 2) (pa_cons (pv 3) (pa_cons (pv 4) (pa_cons (pe_callTy (call_list_ofK (K := K) rfl) (by rfl) T.z_list (by decide +kernel) (pa_cons (pv 5) pa_nil)) (pa_cons (C8.pe_c C_law_flat hr (by decide) (by rfl) (pa_cons (pv 6) pa_nil)) pa_nil)))))))
      (pss_cons
      (ps_set (i := 8) sc_law.nd rfl (Or.inl rfl) (C8.pe_c C_law_take hr (by decide) (by rfl) (pa_cons (pv 1) (pa_cons pe_int pa_nil))))
      (pss_cons
      (ps_set (i := 9) sc_law.nd rfl (Or.inl rfl) (pe_lst (pa_cons (pv 3) (pa_cons (pv 2) (pa_cons (pe_op op_sub (pe_un un_neg pe_int) (pv 4)) pa_nil)))))
      (C8.pss_cut
      (ps_if (pt_cmpR op_lt (pv 8) pe_int (nomark _)) (pss_one
      (ps_asg (pe_op op_add (pe_ix (ix_listK (K := K) rfl) (pv 9) (pv 8) (fun _ _ => rfl)) pe_int) (pg_sub (pv 9) (pv 8) set_list))) pss_nil)
      (C8.pss_cut
      (ps_if (pt_cmpR op_eq (pv 8) pe_int (nomark _)) (pss_one
      (ps_asg (pe_ix (ix_listK (K := K) rfl) (pe_lst (pa_cons (pe_un un_neg pe_int) (pa_cons (pe_un un_neg pe_int) (pa_cons (pe_un un_neg pe_int) (pa_cons pe_int (pa_cons pe_int (pa_cons pe_int pa_nil))))))) (pe_op op_mod (pe_callTy call_int1 (by rfl) T.z_int (by decide +kernel) (pa_cons (pe_op op_add (pe_op op_add (pv 4) pe_int) (C8.pe_c C_law_take hr (by decide) (by rfl) (pa_cons (pv 1) (pa_cons pe_int pa_nil)))) pa_nil)) pe_int) (fun _ _ => rfl)) (pg_sub (pv 9) pe_int set_list))) pss_nil)
      (pss_cons
      (ps_set (i := 10) sc_law.nd rfl (Or.inl rfl) (pe_cmpR (op_eqDK (K := K) rfl hr.units) (pv 9) (pe_lst (pa_cons (pv 3) (pa_cons (pv 2) (pa_cons (pe_op op_sub (pe_un un_neg pe_int) (pv 4)) pa_nil)))) (nomark _)))
      (pss_cons
      (ps_asg (C8.pe_c C_law_machine hr (by decide) (by rfl) (pa_cons (pv 1) (pa_cons (pe_ix (ix_listK (K := K) rfl) (pv 9) pe_int (fun _ _ => rfl)) (pa_cons (pe_ix (ix_listK (K := K) rfl) (pv 9) pe_int (fun _ _ => rfl)) (pa_cons (pe_ix (ix_listK (K := K) rfl) (pv 9) pe_int (fun _ _ => rfl)) (pa_cons pe_int pa_nil)))))) (pg_tup (by rfl) (pgs_cons (pg_name (i := 11) sc_law.nd rfl (.inl rfl)) (pgs_cons (pg_name (i := 12) sc_law.nd rfl (.inl rfl)) pgs_nil))))
      (pss_cons
      (ps_set (i := 13) sc_law.nd rfl (Or.inl rfl) (pe_makeN MK hr (by decide) (by rfl) (pa_cons (pe_ix (ix_listK (K := K) rfl) (pv 9) pe_int (fun _ _ => rfl)) (pa_cons (pe_ix (ix_listK (K := K) rfl) (pv 9) pe_int (fun _ _ => rfl)) (pa_cons (pe_ix (ix_listK (K := K) rfl) (pv 9) pe_int (fun _ _ => rfl)) (pa_cons (pe_callTy (call_list_ofK (K := K) rfl) (by rfl) T.z_list (by decide +kernel) (pa_cons (pv 11) pa_nil)) (pa_cons (C8.pe_c C_law_flat hr (by decide) (by rfl) (pa_cons (pv 12) pa_nil)) pa_nil)))))))
      (pss_cons
      (ps_set (i := 14) sc_law.nd rfl (Or.inl rfl) (C8.pe_c C_law_outcome hr (by decide) (by rfl) (pa_cons (pv 7) (pa_cons (pv 13) pa_nil))))
      (pss_cons
      (ps_set (i := 15) sc_law.nd rfl (Or.inl rfl) (C8.pe_c C_law_outcome hr (by decide) (by rfl) (pa_cons (pv 13) (pa_cons (pv 7) pa_nil))))
      (pss_cons
      (ps_if (pt_not (pt_val (pv 10))) (pss_one
      (ps_ret (pe_and (pe_cmpR op_isN (pv 14) pe_non (nomark _)) (pe_one (pe_cmpR op_isN (pv 15) pe_non (nomark _)))))) pss_nil)
      (pss_cons
      (ps_if (PW.pt (pw_or (pt_cmpR op_isN (pv 14) pe_non (nomark _)) (pw_or (pt_cmpR op_isN (pv 15) pe_non (nomark _)) (pw_or1 (pt_not (pt_val (C8.pe_c C_law_is_lasso hr (by decide) (by rfl) (pa_cons (pv 14) (pa_cons (pe_op op_mul (pv 2) (pv 3)) pa_nil))))))))) (pss_one
      (ps_ret pe_bl)) pss_nil)
      (pss_cons
      (ps_if (pt_not (pt_val (C8.pe_c C_law_same hr (by decide) (by rfl) (pa_cons (pv 14) (pa_cons (C8.pe_c C_law_play hr (by decide) (by rfl) (pa_cons (pv 6) (pa_cons (pv 5) (pa_cons (pv 4) (pa_cons (pv 2) (pa_cons (pv 12) (pa_cons (pv 11) pa_nil))))))) pa_nil))))) (pss_one
      (ps_ret pe_bl)) pss_nil)
      (pss_cons
      (ps_if (PW.pt (pw_or (pt_not (pt_val (C8.pe_c C_law_is_lasso hr (by decide) (by rfl) (pa_cons (pv 15) (pa_cons (pe_op op_mul (pv 2) (pv 3)) pa_nil))))) (pw_or1 (pt_not (pt_val (C8.pe_c C_law_same hr (by decide) (by rfl) (pa_cons (pv 15) (pa_cons (C8.pe_c C_law_turn_letters hr (by decide) (by rfl) (pa_cons (pv 14) (pa_cons (pv 2) (pa_cons (pv 3) pa_nil)))) pa_nil)))))))) (pss_one
      (ps_ret pe_bl)) pss_nil)
      (pss_cons
      (ps_set (i := 16) sc_law.nd rfl (Or.inl rfl) (pe_tup (pa_cons (pe_callTy (call_tuple_ofK (K := K) rfl) (by rfl) T.z_tuple (by decide +kernel) (pa_cons (pe_lc (own := [("letter", 17)]) (g := gName 17) (tt := tYes) rfl sc_law.nd (pi_tup (pe_ix (ix_tupK (K := K) rfl) (pv 14) pe_int (fun _ _ => rfl))) (blkOk_by (N := N_law) (sc := defScope s_law) (by decide +kernel)) (fun _ _ _ _ _ => (pg_name (i := 17) sc_law.nd rfl (Or.inl rfl))) (fun _ _ _ _ _ => pts_nil) (fun _ _ _ _ _ => (pe_op op_mod (pv 17) (pv 2)))) pa_nil)) (pa_cons (pe_callTy (call_tuple_ofK (K := K) rfl) (by rfl) T.z_tuple (by decide +kernel) (pa_cons (pe_lc (own := [("letter", 17)]) (g := gName 17) (tt := tYes) rfl sc_law.nd (pi_tup (pe_ix (ix_tupK (K := K) rfl) (pv 14) pe_int (fun _ _ => rfl))) (blkOk_by (N := N_law) (sc := defScope s_law) (by decide +kernel)) (fun _ _ _ _ _ => (pg_name (i := 17) sc_law.nd rfl (Or.inl rfl))) (fun _ _ _ _ _ => pts_nil) (fun _ _ _ _ _ => (pe_op op_mod (pv 17) (pv 2)))) pa_nil)) pa_nil))))
      (pss_one
      (ps_ret (pe_cmpR (op_eqDK (K := K) rfl hr.units) (pe_cx X_trace hr (by decide) takes_none5 (by rfl) (pa_cons (pv 7) (pa_cons (pv 16) pa_nil))) (pv 14) (nomark _)))))))))))))))))))))))), ?_⟩
    refine ⟨_, rfl, sa, ns, 150, rfl, hS, by decide, fun H1 d s1 hd0 d1 => ?_⟩
    refine ⟨_, rfl, d, 3, rfl, d1, by decide, fun iv ds i0 i1 => ?_⟩
    have d2 : Drw (upd H1 d (.lst (ds.map V.int))) d := Drw.own
    generalize upd H1 d (.lst (ds.map V.int)) = H2 at d2 ⊢
    refine ⟨_, _, rfl, rfl, ?_⟩
    show gName 2 (V.int (1 + iv)) _ _ _
    have hI1 : 1 ≤ 1 + iv := by omega
    have hI3 : 1 + iv ≤ 3 := by omega
    generalize 1 + iv = I at hI1 hI3 ⊢
    refine ⟨_, rfl, d, 3, rfl, d2, by decide, fun ov ds3 o0 o1 => ?_⟩
    have d3 : Drw (upd H2 d (.lst (ds3.map V.int))) d := Drw.own
    generalize upd H2 d (.lst (ds3.map V.int)) = H3 at d3 ⊢
    refine ⟨_, _, rfl, rfl, ?_⟩
    show gName 3 (V.int (1 + ov)) _ _ _
    have hO1 : 1 ≤ 1 + ov := by omega
    have hO3 : 1 + ov ≤ 3 := by omega
    generalize 1 + ov = O at hO1 hO3 ⊢
    refine ⟨_, rfl, d, 6, rfl, d3, by decide, fun lv ds4 l0 l1 => ?_⟩
    have d4 : Drw (upd H3 d (.lst (ds4.map V.int))) d := Drw.own
    generalize upd H3 d (.lst (ds4.map V.int)) = H4 at d4 ⊢
    refine ⟨_, _, rfl, rfl, ?_⟩
    show gName 4 (V.int (lv - 3)) _ _ _
    have hL0 : -3 ≤ lv - 3 := by omega
    have hL1 : lv - 3 ≤ 2 := by omega
    generalize lv - 3 = L at hL0 hL1 ⊢
    clear d1 d2 d3 s1 hd0 i0 i1 o0 o1 l0 l1
    refine ⟨_, rfl, _, rfl, _, rfl, _, rfl, d, I, O, L, 4, rfl, d4, by omega, by omega, by omega, by omega, by omega, by decide, by decide, fun H5 t oa r as op c k5 d5 et ho hL g1 g2 g3 hV hc4 => ?_⟩
    refine ⟨t, _, rfl, .of et, rfl, _, _, rfl, _, _, rfl, rfl, ?_⟩
    clear k5 et d4
    have hcn : 0 < c.length := List.length_pos_iff.mpr hV.ne
    have hopL := hV.op_len
    have hop : op.length ≤ 3 := by omega
    have hrw : ∀ q ∈ c, q.length ≤ 3 := fun q hq => by have := hV.w q hq; omega
    refine ⟨_, rfl, _, rfl, _, rfl, _, rfl, oa, _, rfl, .inl (.of ho), fun PO nPO => ?_⟩
    have s6 := same_new (o := .lst (op.map V.int)) nPO
    have ePO := upd_same (H := H5) (a := PO) (o := .lst (op.map V.int))
    generalize upd H5 PO (.lst (op.map V.int)) = H6 at s6 ePO ⊢
    refine ⟨_, rfl, r, as, c, rfl, hL.same s6, by omega, fun H7 PR as2 s7 hL7 _ _ => ?_⟩
    refine fun x dx hx hdx hne => ?_
    have s8 := sameM_fresh (C := C) hx hdx
    refine ⟨x, PO, PR, dx, I, O, L, op, as2, c, rfl, upd_same, .inl (s8 _ _ (s7 _ _ ePO)), hL7.same s8, by omega, by omega, fun q hq => by have := hrw q hq; omega, fun k => absurd hV k, fun _ H8 k8 A8 => ⟨rfl, ?_⟩⟩
    have s58 := (s6.trans s7).trans (sameM_made hx hdx k8)
    have d8 := d5.same s58
    have ho8 := s58 _ _ ho
    have hL8 := hL.same s58
    clear s8 k8 hx hdx hne hL7 s7 ePO s6 nPO s58 hL d5 ho
    refine ⟨_, rfl, d, 15, rfl, d8, by decide, fun wv dsw w0 w1 => ?_⟩
    have kA : Kp d H8 (upd H8 d (.lst (dsw.map V.int))) := Kp.own
    have A : MchAt C (upd H8 d (.lst (dsw.map V.int))) x I O L op c := mch_kl (S := [d]) (fun b o nb hb => kA _ _ (fun z => nb (by rw [z]; exact List.mem_singleton_self _)) hb) (fun b hb => by obtain ⟨o, y⟩ := d8; rw [List.mem_singleton.mp hb]; exact ⟨_, y⟩) A8
    replace ho := kA _ _ g1.symm ho8
    have hL : LPr (upd H8 d (.lst (dsw.map V.int))) r as c := ⟨kA _ _ g2.symm hL8.1, RP.keep hL8.2 (fun a ha o h => kA _ _ (g3 a ha) h) (kp_tup d8 kA)⟩
    have dA : Drw (upd H8 d (.lst (dsw.map V.int))) d := Drw.own
    generalize upd H8 d (.lst (dsw.map V.int)) = HA at dA A ho hL ⊢
    clear kA A8 ho8 hL8 d8
    refine ⟨_, rfl, _, rfl, _, rfl, _, rfl, _, _, rfl, rfl, by show 3 ≤ sizeLine; decide, fun SZ nSZ => ?_⟩
    have nSd : SZ ≠ d := fun z => by obtain ⟨o, y⟩ := dA; rw [← z, nSZ] at y; cases y
    have sB := same_new (o := .lst [.int O, .int I, .int (-1 - L)]) nSZ
    replace eZ := upd_same (H := HA) (a := SZ) (o := .lst [.int O, .int I, .int (-1 - L)])
    have dB := dA.same sB
    generalize upd HA SZ (.lst [.int O, .int I, .int (-1 - L)]) = HB at sB eZ dB ⊢
    refine ⟨fun σ H' => ∃ a b : Int, σ = [some (.ref sa), some (.ref d), some (.int I), some (.int O), some (.int L), some (.ref oa), some (.ref r), some (.ref x), some (.int wv), some (.ref SZ), none, none, none, none, none, none, none, none] ∧ H' SZ = some (.lst [.int a, .int b, .int (-1 - L)]) ∧ Same HA H' ∧ Drw H' d ∧ 1 ≤ a ∧ a ≤ 4 ∧ 1 ≤ b ∧ b ≤ 4, ?_, ?_⟩
    · have hkp : ∀ (o : HO) (b : Addr) (y : HO), HA b = some y → upd HB SZ o b = some y := fun o b y hb => by rw [upd_ne (ne_of_none hb nSZ)]; exact sB _ _ hb
      have hdr : ∀ o, Drw (upd HB SZ o) d := fun o => by obtain ⟨ds, y⟩ := dB; exact ⟨ds, by rw [upd_ne nSd.symm]; exact y⟩
      refine ⟨_, rfl, _, _, rfl, rfl, _, rfl, ite2 (fun e => ?_) (fun e => ⟨O, I, rfl, eZ, sB, dB, by omega, by omega, by omega, by omega⟩)⟩
      have e : wv < 2 := of_decide_eq_true e
      rcases (show wv = 0 ∨ wv = 1 by omega) with rfl | rfl
      · refine ⟨_, rfl, _, rfl, SZ, _, _, _, rfl, rfl, .of eZ, rfl, _, _, rfl, rfl, _, rfl, _, rfl, SZ, _, _, 0, rfl, rfl, eZ, rfl, O + 1, I, rfl, upd_same, hkp _, hdr _, by omega, by omega, by omega, by omega⟩
      · refine ⟨_, rfl, _, rfl, SZ, _, _, _, rfl, rfl, .of eZ, rfl, _, _, rfl, rfl, _, rfl, _, rfl, SZ, _, _, 1, rfl, rfl, eZ, rfl, O, I + 1, rfl, upd_same, hkp _, hdr _, by omega, by omega, by omega, by omega⟩
    clear eZ sB dB
    rintro σ HC ⟨a, b, rfl, eZ, sC, dC, a1, a4, b1, b4⟩
    refine ⟨fun σ H' => ∃ l2 : Int, σ = [some (.ref sa), some (.ref d), some (.int I), some (.int O), some (.int L), some (.ref oa), some (.ref r), some (.ref x), some (.int wv), some (.ref SZ), none, none, none, none, none, none, none, none] ∧ H' SZ = some (.lst [.int a, .int b, .int l2]) ∧ Kp d HA H' ∧ Drw H' d ∧ -3 ≤ l2 ∧ l2 ≤ 2, ?_, ?_⟩
    · refine ⟨_, rfl, rfl, _, rfl, ite_eq (fun e => ?_) (fun e => ⟨-1 - L, rfl, eZ, Same.kp sC, dC, by omega, by omega⟩)⟩
      refine ⟨_, rfl, _, rfl, _, rfl, by show 6 ≤ sizeLine; decide, fun X6 n6 => ?_⟩
      have s6 := same_new (o := .lst [.int (-3), .int (-2), .int (-1), .int 0, .int 1, .int 2]) n6
      have e6 := upd_same (H := HC) (a := X6) (o := .lst [.int (-3), .int (-2), .int (-1), .int 0, .int 1, .int 2])
      have d6 := dC.same s6
      have n6d : X6 ≠ d := fun z => by obtain ⟨o, y⟩ := dC; rw [← z, n6] at y; cases y
      generalize upd HC X6 (.lst [.int (-3), .int (-2), .int (-1), .int 0, .int 1, .int 2]) = HD at s6 e6 d6 ⊢
      refine ⟨_, rfl, _, _, rfl, rfl, _, rfl, d, 6, rfl, d6, by decide, fun u us u0 u1 => ⟨_, _, rfl, rfl, .inl ⟨_, rfl, _, _, rfl, rfl, (show (0 : Int) < 6 by decide), X6, _, _, _, rfl, rfl, .of (by rw [upd_ne n6d]; exact e6), at6 (Int.emod_nonneg _ (by decide)) (Int.emod_lt_of_pos _ (by decide)), ?_⟩⟩⟩
      have k0 := Int.emod_nonneg (L + 3 + u) (show (6 : Int) ≠ 0 by decide)
      have k1 := Int.emod_lt_of_pos (L + 3 + u) (show (0 : Int) < 6 by decide)
      have hz : upd HD d (.lst (us.map V.int)) SZ = some (.lst [.int a, .int b, .int (-1 - L)]) := by rw [upd_ne nSd]; exact s6 _ _ eZ
      refine ⟨_, rfl, SZ, _, _, 2, rfl, rfl, hz, rfl, _, rfl, upd_same, fun b' o nb hb => ?_, ⟨us, by rw [upd_ne nSd.symm]; exact upd_same⟩, by omega, by omega⟩
      rw [upd_ne (ne_of_none hb nSZ), upd_ne nb]
      exact s6 _ _ (sC _ _ hb)
    clear eZ sC dC
    rintro σ HD ⟨l2, rfl, eZ, kD, dD, l20, l21⟩
    have kpA : ∀ {X Y : Hp}, Drw X d → Kp d X Y → MchAt C X x I O L op c → MchAt C Y x I O L op c := fun hd k h => mch_kl (S := [d]) (fun b o nb hb => k _ _ (fun z => nb (by rw [z]; exact List.mem_singleton_self _)) hb) (fun b hb => by obtain ⟨o, y⟩ := hd; rw [List.mem_singleton.mp hb]; exact ⟨_, y⟩) h
    have kpL : ∀ {X Y : Hp}, Drw X d → Kp d X Y → LPr X r as c → LPr Y r as c := fun hd k h => ⟨k _ _ g2.symm h.1, RP.keep h.2 (fun a ha o h => k _ _ (g3 a ha) h) (kp_tup hd k)⟩
    replace A := kpA dA kD A
    replace ho := kD _ _ g1.symm ho
    replace hL := kpL dA kD hL
    clear kD dA nSZ
    -- fits
    refine ⟨_, rfl, _, rfl, _, rfl, _, rfl, _, rfl, _, _, rfl, rfl, by show 3 ≤ sizeLine; decide, fun FZ nFZ => ?_⟩
    have sE := same_new (o := .lst [.int O, .int I, .int (-1 - L)]) nFZ
    have eF := upd_same (H := HD) (a := FZ) (o := .lst [.int O, .int I, .int (-1 - L)])
    have dE := dD.same sE
    generalize upd HD FZ (.lst [.int O, .int I, .int (-1 - L)]) = HE at sE eF dE ⊢
    replace A := mch_same sE A
    replace ho := sE _ _ ho
    replace hL := hL.same sE
    replace eZ := sE _ _ eZ
    refine ⟨_, _, dp_lst (xs := [a, b, l2]) eZ, dp_lst (xs := [O, I, -1 - L]) eF, shaped_lst _, shaped_lst _, ?_⟩
    rw [eqv_lst]
    obtain ⟨ft, hft⟩ : ∃ ft, ft = decide ([a, b, l2] = [O, I, -1 - L]) := ⟨_, rfl⟩
    rw [← hft]
    clear sE dD eF nFZ
    -- the other machine
    refine ⟨_, rfl, _, rfl, SZ, _, _, _, rfl, rfl, .of eZ, rfl, _, rfl, SZ, _, _, _, rfl, rfl, .of eZ, rfl, _, rfl, SZ, _, _, _, rfl, rfl, .of eZ, rfl, d, a, b, l2, 4, rfl, dE, by omega, by omega, by omega, by omega, by omega, by decide, by decide, fun H5 t oa2 r2 as2 op2 c2 k5 d5 et ho2 hL2 g1' g2' g3' hU hc24 => ?_⟩
    replace A := kpA dE k5 A
    replace ho := k5 _ _ g1.symm ho
    replace hL := kpL dE k5 hL
    replace eZ := k5 _ _ nSd eZ
    refine ⟨t, _, rfl, .of et, rfl, _, _, rfl, _, _, rfl, rfl, ?_⟩
    clear k5 et dE
    have hcn2 : 0 < c2.length := List.length_pos_iff.mpr hU.ne
    have hopL2 := hU.op_len
    have hop2 : op2.length ≤ 3 := by omega
    have hrw2 : ∀ q ∈ c2, q.length ≤ 4 := fun q hq => by have := hU.w q hq; omega
    refine ⟨_, rfl, SZ, _, _, _, rfl, rfl, .of eZ, rfl, _, rfl, SZ, _, _, _, rfl, rfl, .of eZ, rfl, _, rfl, SZ, _, _, _, rfl, rfl, .of eZ, rfl, _, rfl, oa2, _, rfl, .inl (.of ho2), fun PO nPO => ?_⟩
    have s6 := same_new (o := .lst (op2.map V.int)) nPO
    have ePO := upd_same (H := H5) (a := PO) (o := .lst (op2.map V.int))
    generalize upd H5 PO (.lst (op2.map V.int)) = H6 at s6 ePO ⊢
    refine ⟨_, rfl, r2, as2, c2, rfl, hL2.same s6, by omega, fun H7 PR as3 s7 hL7 _ _ => ?_⟩
    refine fun y dy hy hdy hney => ?_
    have s8 := sameM_fresh (C := C) hy hdy
    refine ⟨y, PO, PR, dy, a, b, l2, op2, as3, c2, rfl, upd_same, .inl (s8 _ _ (s7 _ _ ePO)), hL7.same s8, by omega, by omega, fun q hq => by have := hrw2 q hq; omega, fun k => absurd hU k, fun _ H8 k8 B8 => ⟨rfl, ?_⟩⟩
    have s58 := (s6.trans s7).trans (sameM_made hy hdy k8)
    replace A := mch_same s58 A
    replace ho := s58 _ _ ho
    replace hL := hL.same s58
    replace ho2 := s58 _ _ ho2
    replace hL2 := hL2.same s58
    clear s8 k8 hy hdy hney hL7 s7 ePO s6 nPO s58 d5 eZ
    by_cases hfit : l2 = -1 - L ∧ a = O ∧ b = I
    · obtain ⟨rfl, rfl, rfl⟩ := hfit
      have hft : ft = true := by rw [hft]; exact decide_eq_true rfl
      subst hft
      have hP := plk_of hV hU (by omega) (by omega) hc4 hc24
      refine ⟨_, rfl, _, rfl, x, y, b, a, L, a, b, -1 - L, op, op2, c, c2, rfl, A, hV, B8, hU, hc4, hc24, fun hn => absurd ⟨rfl, rfl, rfl⟩ hn, fun _ _ _ => ⟨by omega, by omega, fun H9 pf hf lf s9 Lf Nf Wf hfb lfb => ?_⟩⟩
      refine ⟨_, rfl, _, rfl, y, x, a, b, -1 - L, b, a, L, op2, op, c2, c, rfl, mch_same s9 B8, hU, mch_same s9 A, hV, hc24, hc4, fun hn => absurd ⟨by omega, rfl, rfl⟩ hn, fun _ _ _ => ⟨by omega, by omega, fun HA po ho' lo s10 Lo No Wo hob lob => ?_⟩⟩
      obtain ⟨He, eHe⟩ : ∃ He, He = plH L c op c2 op2 := ⟨_, rfl⟩
      obtain ⟨Sa, eSa⟩ : ∃ Sa, Sa = plS L c op c2 op2 := ⟨_, rfl⟩
      have Wf : ∀ t, wat hf lf t = He t + b * Sa t := fun t => by rw [Wf t, eHe, eSa]; rfl
      have Wo : ∀ t, wat ho' lo t = Sa t + a * He t := fun t => by rw [Wo t, eHe, eSa]; unfold plW; rw [plH_swap, plS_swap]
      rw [← eHe, ← eSa] at hP
      have s910 := s9.trans s10
      have Lf := Lf.same s10
      have hmul : ∀ {u v w z : Int}, 0 ≤ u → u < w → 0 ≤ v → v < z → 0 ≤ w → 0 ≤ u + w * v ∧ u + w * v < w * z := fun {u v w z} h1 h2 h3 h4 h5 => by
        have m1 : 0 ≤ w * v := Int.mul_nonneg h5 h3
        have m2 : w * (v + 1) ≤ w * z := Int.mul_le_mul_of_nonneg_left (by omega) h5
        rw [Int.mul_add, Int.mul_one] at m2
        omega
      have rf : ∀ z, z ∈ hf ∨ z ∈ lf → 0 ≤ z ∧ z < b * a := fun z hz => by
        obtain ⟨t, rfl⟩ := wat_of hz
        rw [Wf]
        exact hmul (hP.he t).1 (hP.he t).2 (hP.sa t).1 (hP.sa t).2 (by omega)
      have ro : ∀ z, z ∈ ho' ∨ z ∈ lo → 0 ≤ z ∧ z < b * a := fun z hz => by
        obtain ⟨t, rfl⟩ := wat_of hz
        rw [Wo, Int.mul_comm b a]
        exact hmul (hP.sa t).1 (hP.sa t).2 (hP.he t).1 (hP.he t).2 (by omega)
      refine ⟨_, rfl, _, rfl, ite_f (by simp) ?_⟩
      refine ⟨_, rfl, rfl, _, rfl, ite_f (by simp) ⟨_, rfl, rfl, _, rfl, ite_f (by simp) ?_⟩⟩
      refine ⟨_, rfl, _, rfl, _, rfl, _, _, rfl, rfl, .inl ⟨by omega, by omega⟩, pf, hf, lf, b * a, rfl, Lf, Nf, by omega, fun z hz => rf z (.inl hz), fun z hz => rf z (.inr hz), fun HB sB => ⟨_, rfl, ite_f (by simp) ?_⟩⟩
      have sAB := s910.trans sB
      have A' := mch_same sAB A
      have ho_ := sAB _ _ ho
      have hL_ := hL.same sAB
      have ho2_ := sAB _ _ ho2
      have hL2_ := hL2.same sAB
      refine ⟨_, rfl, _, rfl, _, rfl, _, rfl, _, rfl, _, rfl, _, rfl, r, oa, r2, oa2, as, as2, L, b, a, op, op2, c, c2, He, Sa, rfl, hL_, hL2_, ho_, ho2_, ⟨hV.w, hV.st⟩, ⟨hU.w, hU.st⟩, hV.ne, hU.ne, hc4, hc24, by omega, by omega, by omega, by omega, hP.he, hP.sa, hP.hH, hP.hS, hP.o2, hP.o1, hP.rep, fun j t h1 h2 n hn => by obtain ⟨u1, u2⟩ := hP.per j t h1 h2 n hn; rw [u1, u2], fun HC pp hp lp sC Lp nep Wp hpb lpb => ?_⟩
      refine ⟨pf, pp, hf, lf, hp, lp, rfl, (Lf.same (sB.trans sC)).pr, Lp.pr, Nf.ne, nep, by unfold dfn; omega, fun t => by rw [Wf, Wp], ?_⟩
      refine ⟨_, rfl, ite_f (by simp) ?_⟩
      have sBC := sB.trans sC
      refine ⟨_, rfl, _, rfl, _, rfl, _, _, rfl, rfl, .inl ⟨by omega, by omega⟩, po, ho', lo, b * a, rfl, Lo.same sBC, No, by omega, fun z hz => ro z (.inl hz), fun z hz => ro z (.inr hz), fun HD sD => ⟨_, rfl, ite_f (by simp) ?_⟩⟩
      have sBD := sBC.trans sD
      refine ⟨_, rfl, _, rfl, _, rfl, _, rfl, pf, b, a, hf, lf, rfl, Lf.same sBD, by omega, by omega, by omega, by omega, by omega, by omega, fun HE pu sE Lu => ?_⟩
      have sBE := sBD.trans sE
      have lune : (lf.map fun z => z / b + a * (z % b)) ≠ [] := fun z => Nf.ne (List.map_eq_nil_iff.mp z)
      have hdiv : ∀ t, (He t + b * Sa t) / b = Sa t := fun t => by
        rw [Int.add_mul_ediv_left _ _ (by omega), Int.ediv_eq_zero_of_lt (hP.he t).1 (hP.he t).2, Int.zero_add]
      have hmod : ∀ t, (He t + b * Sa t) % b = He t := fun t => by
        rw [Int.add_mul_emod_self_left, Int.emod_eq_of_lt (hP.he t).1 (hP.he t).2]
      refine ⟨po, pu, ho', lo, _, _, rfl, (Lo.same sBE).pr, Lu.pr, No.ne, lune, by unfold dfn; rw [List.length_map, List.length_map]; omega, fun t => by rw [Wo, wat_map40 Nf.ne, Wf, hdiv, hmod], ?_⟩
      refine ⟨_, rfl, ite_f (by simp) ?_⟩
      have LfE := Lf.same sBE
      obtain ⟨fa, fb, p1, p2, p3⟩ := id LfE
      refine ⟨_, rfl, pf, _, _, .ref fa, rfl, rfl, .of (id p1), rfl, fa, rfl, ⟨_, .of (id p2)⟩, fun D1 hD1 => lc_tup (K := K) (a := fa) (xs := hf.map V.int) (fun i H' => Same HE H' ∧ H' D1 = some (.lst (((hf.take i).map fun z => z % b).map V.int))) ⟨same_new hD1, upd_same⟩ (fun i H' _ z => .of (z.1 _ _ (id p2))) ?_ ?_⟩
      · rintro i v H1 hi ⟨s1, eD⟩
        obtain ⟨z, hz, rfl⟩ := ints_get hi
        refine ⟨rfl, _, rfl, _, rfl, _, _, rfl, rfl, (show (0 : Int) < b by omega), _, eD, lenI (by rw [List.length_map, List.length_take]; omega), fun c' o hc' => by rw [upd_ne (ne_of_none hc' hD1)]; exact s1 _ _ hc', ?_⟩
        rw [upd_same, take_get hz, List.map_append, List.map_append]
        rfl
      rintro HF ⟨sF, eD1⟩
      rw [List.length_map, List.take_length] at eD1
      refine ⟨D1, _, rfl, .inl ⟨.of eD1, fun q1 hq1 => ?_⟩⟩
      have t1 := same_new (o := .tup ((hf.map fun z => z % b).map V.int)) hq1
      have f1 := upd_same (H := HF) (a := q1) (o := .tup ((hf.map fun z => z % b).map V.int))
      generalize upd HF q1 (.tup ((hf.map fun z => z % b).map V.int)) = HG at t1 f1 ⊢
      have sEG := sF.trans t1
      refine ⟨_, rfl, pf, _, _, .ref fb, rfl, rfl, .of (sEG _ _ p1), rfl, fb, rfl, ⟨_, .of (sEG _ _ p3)⟩, fun D2 hD2 => lc_tup (K := K) (a := fb) (xs := lf.map V.int) (fun i H' => Same HG H' ∧ H' D2 = some (.lst (((lf.take i).map fun z => z % b).map V.int))) ⟨same_new hD2, upd_same⟩ (fun i H' _ z => .of (z.1 _ _ (sEG _ _ p3))) ?_ ?_⟩
      · rintro i v H1 hi ⟨s1, eD⟩
        obtain ⟨z, hz, rfl⟩ := ints_get hi
        refine ⟨rfl, _, rfl, _, rfl, _, _, rfl, rfl, (show (0 : Int) < b by omega), _, eD, lenI (by rw [List.length_map, List.length_take]; omega), fun c' o hc' => by rw [upd_ne (ne_of_none hc' hD2)]; exact s1 _ _ hc', ?_⟩
        rw [upd_same, take_get hz, List.map_append, List.map_append]
        rfl
      rintro HI ⟨sI, eD2⟩
      rw [List.length_map, List.take_length] at eD2
      refine ⟨D2, _, rfl, .inl ⟨.of eD2, fun q2 hq2 => ?_⟩⟩
      have t2 := same_new (o := .tup ((lf.map fun z => z % b).map V.int)) hq2
      have f2 := upd_same (H := HI) (a := q2) (o := .tup ((lf.map fun z => z % b).map V.int))
      generalize upd HI q2 (.tup ((lf.map fun z => z % b).map V.int)) = HJ at t2 f2 ⊢
      refine ⟨by show 2 ≤ sizeLine; decide, fun ph hph => ?_⟩
      have t3 := same_new (o := .tup [.ref q1, .ref q2]) hph
      have sGI := sI.trans (t2.trans t3)
      have LH : Las (upd HJ ph (.tup [.ref q1, .ref q2])) ph (hf.map fun z => z % b) (lf.map fun z => z % b) := ⟨q1, q2, upd_same, sGI _ _ f1, t3 _ _ f2⟩
      have sEJ := sEG.trans sGI
      generalize upd HJ ph (.tup [.ref q1, .ref q2]) = HK at LH sEJ ⊢
      have lhne : (lf.map fun z => z % b) ≠ [] := fun z => Nf.ne (List.map_eq_nil_iff.mp z)
      have hWh : wat (hf.map fun z => z % b) (lf.map fun z => z % b) = He := funext fun t => by rw [wat_map40 Nf.ne, Wf, hmod]
      have rh : ∀ z, z ∈ (hf.map fun z => z % b) ∨ z ∈ (lf.map fun z => z % b) → 0 ≤ z ∧ z < b := fun z hz => by
        obtain ⟨t, rfl⟩ := wat_of hz
        rw [hWh]
        exact hP.he t
      refine ⟨_, rfl, _, rfl, x, ph, b, a, L, op, _, _, c, rfl, mch_same (sBE.trans sEJ) (mch_same s910 A), hV, hc4, by omega, LH, lhne, by rw [List.length_map]; omega, by rw [List.length_map]; omega, fun z hz => (rh z hz).1, fun ⟨z, hz, hb'⟩ => by have := rh z hz; omega, fun _ HM pt ht lt sM Lt Nt Wt _ _ _ => ?_⟩
      have hsame : ∀ n, wat ht lt n = wat hf lf n := fun n => by rw [Wt, hWh, plk_resp hV hP, Wf]
      obtain ⟨e1, e2⟩ := Nt.uniq Nf hsame
      subst e1 e2
      refine ⟨_, rfl, _, _, dp_las Lt, dp_las (((LfE.same sEJ)).same sM), shaped_las _ _, shaped_las _ _, ?_⟩
      rw [eqv_las]
      exact q _
    · have hft : ft = false := by
        rw [hft]
        refine decide_eq_false fun z => hfit ?_
        injection z with z1 z
        injection z with z2 z
        injection z with z3 _
        exact ⟨z3, z1, z2⟩
      subst hft
      refine ⟨_, rfl, _, rfl, x, y, I, O, L, a, b, l2, op, op2, c, c2, rfl, A, hV, B8, hU, hc4, hc24, fun _ H9 s9 => ?_, fun u v w => absurd ⟨u, v, w⟩ hfit⟩
      refine ⟨_, rfl, _, rfl, y, x, a, b, l2, I, O, L, op2, op, c2, c, rfl, mch_same s9 B8, hU, mch_same s9 A, hV, hc24, hc4, fun _ HA s10 => ?_, fun u v w => absurd ⟨by omega, w.symm, v.symm⟩ hfit⟩
      refine ⟨_, rfl, _, rfl, ite_t (by simp) ?_⟩
      refine ⟨_, rfl, rfl, _, rfl, ?_⟩
      refine ite_t (by simp) ⟨_, rfl, rfl, ?_⟩
      show Q (V.bl (decide (V.non = V.non))) _
      rw [decide_eq_true rfl]
      exact q _
end

theorem all_mk {l : PySem.W.OpenLaw} {w : World} {K : PySem.W.Frag} {h : Heap} {mg : Str → Option Value} {fa : Addr} {f0 f1 f2 f3 f4 f5 f6 f7 f8 f9 f10 f11 f12 f13 f14 f15 f16 f17 f18 f19 f20 f21 f22 f23 f24 f25 f26 cX cI cL C fI fC : Addr} (X : K.In h) (G : h.Ns mainGlobals mg) (hfa : mg "law" = some (.ref fa))
    {od0 an0 od1 an1 od2 an2 od3 an3 od4 an4 od5 an5 od6 an6 od7 an7 od8 an8 od9 an9 od10 an10 od11 an11 od12 an12 od13 an13 od14 an14 od15 an15 od16 an16 od17 an17 od18 an18 od19 an19 od20 an20 od21 an21 od22 an22 od23 an23 od24 an24 od25 an25 od26 an26 : Option Addr} {sl0 sl1 sl2 sl3 sl4 sl5 sl6 sl7 sl8 sl9 sl10 sl11 sl12 sl13 sl14 sl15 sl16 sl17 sl18 sl19 sl20 sl21 sl22 sl23 sl24 sl25 sl26 : Array (Option Value)} {oc0 kV0 dc0 pm0 cd0 ct0 oc1 kV1 dc1 pm1 cd1 ct1 oc2 kV2 dc2 pm2 cd2 ct2 oc3 kV3 dc3 pm3 cd3 ct3 oc4 kV4 dc4 pm4 cd4 ct4 oc5 kV5 dc5 pm5 cd5 ct5 oc6 kV6 dc6 pm6 cd6 ct6 oc7 kV7 dc7 pm7 cd7 ct7 oc8 kV8 dc8 pm8 cd8 ct8 oc9 kV9 dc9 pm9 cd9 ct9 oc10 kV10 dc10 pm10 cd10 ct10 oc11 kV11 dc11 pm11 cd11 ct11 oc12 kV12 dc12 pm12 cd12 ct12 oc13 kV13 dc13 pm13 cd13 ct13 oc14 kV14 dc14 pm14 cd14 ct14 oc15 kV15 dc15 pm15 cd15 ct15 oc16 kV16 dc16 pm16 cd16 ct16 oc17 kV17 dc17 pm17 cd17 ct17 oc18 kV18 dc18 pm18 cd18 ct18 oc19 kV19 dc19 pm19 cd19 ct19 oc20 kV20 dc20 pm20 cd20 ct20 oc21 kV21 dc21 pm21 cd21 ct21 oc22 kV22 dc22 pm22 cd22 ct22 oc23 kV23 dc23 pm23 cd23 ct23 oc24 kV24 dc24 pm24 cd24 ct24 oc25 kV25 dc25 pm25 cd25 ct25 oc26 kV26 dc26 pm26 cd26 ct26 : Value} {odI anI : Option Addr} {slI : Array (Option Value)} {ocI kVI dcI pmI cdI ctI : Value} {odJ anJ : Option Addr} {slJ : Array (Option Value)} {ocJ kVJ dcJ pmJ cdJ ctJ : Value} {tk1 tk2 : Tok}
    (a0 : PySem.W.nsIn K mainGlobals "shortest_lasso" = some (some (.ref f0))) (l0 : K.lookup f0 = some ⟨oc0, od0, .func (PySem.W.fnOf "shortest_lasso" "shortest_lasso" (defArgs s_shortest_lasso) (defBody s_shortest_lasso) (defScope s_shortest_lasso) .none kV0 dc0 pm0 an0 cd0 ct0), sl0⟩) (c0 : PySem.W.codeIn K cd0 "shortest_lasso" = true) (k0 : PySem.W.keepIn K (.ref f0) = true)
    (a1 : PySem.W.nsIn K mainGlobals "shortest_period" = some (some (.ref f1))) (l1 : K.lookup f1 = some ⟨oc1, od1, .func (PySem.W.fnOf "shortest_period" "shortest_period" (defArgs s_shortest_period) (defBody s_shortest_period) (defScope s_shortest_period) .none kV1 dc1 pm1 an1 cd1 ct1), sl1⟩) (c1 : PySem.W.codeIn K cd1 "shortest_period" = true) (k1 : PySem.W.keepIn K (.ref f1) = true)
    (a2 : PySem.W.nsIn K mainGlobals "letter_at" = some (some (.ref f2))) (l2 : K.lookup f2 = some ⟨oc2, od2, .func (PySem.W.fnOf "letter_at" "letter_at" (defArgs s_letter_at) (defBody s_letter_at) (defScope s_letter_at) .none kV2 dc2 pm2 an2 cd2 ct2), sl2⟩) (c2 : PySem.W.codeIn K cd2 "letter_at" = true) (k2 : PySem.W.keepIn K (.ref f2) = true)
    (a3 : PySem.W.nsIn K mainGlobals "suffix" = some (some (.ref f3))) (l3 : K.lookup f3 = some ⟨oc3, od3, .func (PySem.W.fnOf "suffix" "suffix" (defArgs s_suffix) (defBody s_suffix) (defScope s_suffix) .none kV3 dc3 pm3 an3 cd3 ct3), sl3⟩) (c3 : PySem.W.codeIn K cd3 "suffix" = true) (k3 : PySem.W.keepIn K (.ref f3) = true)
    (a4 : PySem.W.nsIn K mainGlobals "check_letters" = some (some (.ref f4))) (l4 : K.lookup f4 = some ⟨oc4, od4, .func (PySem.W.fnOf "check_letters" "check_letters" (defArgs s_check_letters) (defBody s_check_letters) (defScope s_check_letters) .none kV4 dc4 pm4 an4 cd4 ct4), sl4⟩) (c4 : PySem.W.codeIn K cd4 "check_letters" = true) (k4 : PySem.W.keepIn K (.ref f4) = true)
    (a5 : PySem.W.nsIn K mainGlobals "combine" = some (some (.ref f5))) (l5 : K.lookup f5 = some ⟨oc5, od5, .func (PySem.W.fnOf "combine" "combine" (defArgs s_combine) (defBody s_combine) (defScope s_combine) .none kV5 dc5 pm5 an5 cd5 ct5), sl5⟩) (c5 : PySem.W.codeIn K cd5 "combine" = true) (k5 : PySem.W.keepIn K (.ref f5) = true)
    (a6 : PySem.W.nsIn K mainGlobals "play" = some (some (.ref f6))) (l6 : K.lookup f6 = some ⟨oc6, od6, .func (PySem.W.fnOf "play" "play" (defArgs s_play) (defBody s_play) (defScope s_play) .none kV6 dc6 pm6 an6 cd6 ct6), sl6⟩) (c6 : PySem.W.codeIn K cd6 "play" = true) (k6 : PySem.W.keepIn K (.ref f6) = true)
    (a7 : PySem.W.nsIn K mainGlobals "exchange" = some (some (.ref f7))) (l7 : K.lookup f7 = some ⟨oc7, od7, .func (PySem.W.fnOf "exchange" "exchange" (defArgs s_exchange) (defBody s_exchange) (defScope s_exchange) .none kV7 dc7 pm7 an7 cd7 ct7), sl7⟩) (c7 : PySem.W.codeIn K cd7 "exchange" = true) (k7 : PySem.W.keepIn K (.ref f7) = true)
    (a8 : PySem.W.nsIn K mainGlobals "check_rows" = some (some (.ref f8))) (l8 : K.lookup f8 = some ⟨oc8, od8, .func (PySem.W.fnOf "check_rows" "check_rows" (defArgs s_check_rows) (defBody s_check_rows) (defScope s_check_rows) .none kV8 dc8 pm8 an8 cd8 ct8), sl8⟩) (c8 : PySem.W.codeIn K cd8 "check_rows" = true) (k8 : PySem.W.keepIn K (.ref f8) = true)
    (a9 : PySem.W.nsIn K mainGlobals "check_said" = some (some (.ref f9))) (l9 : K.lookup f9 = some ⟨oc9, od9, .func (PySem.W.fnOf "check_said" "check_said" (defArgs s_check_said) (defBody s_check_said) (defScope s_check_said) .none kV9 dc9 pm9 an9 cd9 ct9), sl9⟩) (c9 : PySem.W.codeIn K cd9 "check_said" = true) (k9 : PySem.W.keepIn K (.ref f9) = true)
    (a10 : PySem.W.nsIn K mainGlobals "run" = some (some (.ref f10))) (l10 : K.lookup f10 = some ⟨oc10, od10, .func (PySem.W.fnOf "run" "run" (defArgs s_run) (defBody s_run) (defScope s_run) .none kV10 dc10 pm10 an10 cd10 ct10), sl10⟩) (c10 : PySem.W.codeIn K cd10 "run" = true) (k10 : PySem.W.keepIn K (.ref f10) = true)
    (a11 : PySem.W.nsIn K mainGlobals "respond" = some (some (.ref f11))) (l11 : K.lookup f11 = some ⟨oc11, od11, .func (PySem.W.fnOf "respond" "respond" (defArgs s_respond) (defBody s_respond) (defScope s_respond) .none kV11 dc11 pm11 an11 cd11 ct11), sl11⟩) (c11 : PySem.W.codeIn K cd11 "respond" = true) (k11 : PySem.W.keepIn K (.ref f11) = true)
    (a12 : PySem.W.nsIn K mainGlobals "trace" = some (some (.ref f12))) (l12 : K.lookup f12 = some ⟨oc12, od12, .func (PySem.W.fnOf "trace" "trace" (defArgs s_trace) (defBody s_trace) (defScope s_trace) .none kV12 dc12 pm12 an12 cd12 ct12), sl12⟩) (c12 : PySem.W.codeIn K cd12 "trace" = true) (k12 : PySem.W.keepIn K (.ref f12) = true)
    (a13 : PySem.W.nsIn K mainGlobals "_law_draws" = some (some (.ref f13))) (l13 : K.lookup f13 = some ⟨oc13, od13, .func (PySem.W.fnOf "_law_draws" "_law_draws" (defArgs s_law_draws) (defBody s_law_draws) (defScope s_law_draws) .none kV13 dc13 pm13 an13 cd13 ct13), sl13⟩) (c13 : PySem.W.codeIn K cd13 "_law_draws" = true) (k13 : PySem.W.keepIn K (.ref f13) = true)
    (a14 : PySem.W.nsIn K mainGlobals "_law_take" = some (some (.ref f14))) (l14 : K.lookup f14 = some ⟨oc14, od14, .func (PySem.W.fnOf "_law_take" "_law_take" (defArgs s_law_take) (defBody s_law_take) (defScope s_law_take) .none kV14 dc14 pm14 an14 cd14 ct14), sl14⟩) (c14 : PySem.W.codeIn K cd14 "_law_take" = true) (k14 : PySem.W.keepIn K (.ref f14) = true)
    (a15 : PySem.W.nsIn K mainGlobals "_law_is_integer" = some (some (.ref f15))) (l15 : K.lookup f15 = some ⟨oc15, od15, .func (PySem.W.fnOf "_law_is_integer" "_law_is_integer" (defArgs s_law_is_integer) (defBody s_law_is_integer) (defScope s_law_is_integer) .none kV15 dc15 pm15 an15 cd15 ct15), sl15⟩) (c15 : PySem.W.codeIn K cd15 "_law_is_integer" = true) (k15 : PySem.W.keepIn K (.ref f15) = true)
    (a16 : PySem.W.nsIn K mainGlobals "_law_integers" = some (some (.ref f16))) (l16 : K.lookup f16 = some ⟨oc16, od16, .func (PySem.W.fnOf "_law_integers" "_law_integers" (defArgs s_law_integers) (defBody s_law_integers) (defScope s_law_integers) .none kV16 dc16 pm16 an16 cd16 ct16), sl16⟩) (c16 : PySem.W.codeIn K cd16 "_law_integers" = true) (k16 : PySem.W.keepIn K (.ref f16) = true)
    (a17 : PySem.W.nsIn K mainGlobals "_law_normal" = some (some (.ref f17))) (l17 : K.lookup f17 = some ⟨oc17, od17, .func (PySem.W.fnOf "_law_normal" "_law_normal" (defArgs s_law_normal) (defBody s_law_normal) (defScope s_law_normal) .none kV17 dc17 pm17 an17 cd17 ct17), sl17⟩) (c17 : PySem.W.codeIn K cd17 "_law_normal" = true) (k17 : PySem.W.keepIn K (.ref f17) = true)
    (a18 : PySem.W.nsIn K mainGlobals "_law_is_lasso" = some (some (.ref f18))) (l18 : K.lookup f18 = some ⟨oc18, od18, .func (PySem.W.fnOf "_law_is_lasso" "_law_is_lasso" (defArgs s_law_is_lasso) (defBody s_law_is_lasso) (defScope s_law_is_lasso) .none kV18 dc18 pm18 an18 cd18 ct18), sl18⟩) (c18 : PySem.W.codeIn K cd18 "_law_is_lasso" = true) (k18 : PySem.W.keepIn K (.ref f18) = true)
    (a19 : PySem.W.nsIn K mainGlobals "_law_at" = some (some (.ref f19))) (l19 : K.lookup f19 = some ⟨oc19, od19, .func (PySem.W.fnOf "_law_at" "_law_at" (defArgs s_law_at) (defBody s_law_at) (defScope s_law_at) .none kV19 dc19 pm19 an19 cd19 ct19), sl19⟩) (c19 : PySem.W.codeIn K cd19 "_law_at" = true) (k19 : PySem.W.keepIn K (.ref f19) = true)
    (a20 : PySem.W.nsIn K mainGlobals "_law_same" = some (some (.ref f20))) (l20 : K.lookup f20 = some ⟨oc20, od20, .func (PySem.W.fnOf "_law_same" "_law_same" (defArgs s_law_same) (defBody s_law_same) (defScope s_law_same) .none kV20 dc20 pm20 an20 cd20 ct20), sl20⟩) (c20 : PySem.W.codeIn K cd20 "_law_same" = true) (k20 : PySem.W.keepIn K (.ref f20) = true)
    (a21 : PySem.W.nsIn K mainGlobals "_law_flat" = some (some (.ref f21))) (l21 : K.lookup f21 = some ⟨oc21, od21, .func (PySem.W.fnOf "_law_flat" "_law_flat" (defArgs s_law_flat) (defBody s_law_flat) (defScope s_law_flat) .none kV21 dc21 pm21 an21 cd21 ct21), sl21⟩) (c21 : PySem.W.codeIn K cd21 "_law_flat" = true) (k21 : PySem.W.keepIn K (.ref f21) = true)
    (a22 : PySem.W.nsIn K mainGlobals "_law_machine" = some (some (.ref f22))) (l22 : K.lookup f22 = some ⟨oc22, od22, .func (PySem.W.fnOf "_law_machine" "_law_machine" (defArgs s_law_machine) (defBody s_law_machine) (defScope s_law_machine) .none kV22 dc22 pm22 an22 cd22 ct22), sl22⟩) (c22 : PySem.W.codeIn K cd22 "_law_machine" = true) (k22 : PySem.W.keepIn K (.ref f22) = true)
    (a23 : PySem.W.nsIn K mainGlobals "_law_play" = some (some (.ref f23))) (l23 : K.lookup f23 = some ⟨oc23, od23, .func (PySem.W.fnOf "_law_play" "_law_play" (defArgs s_law_play) (defBody s_law_play) (defScope s_law_play) .none kV23 dc23 pm23 an23 cd23 ct23), sl23⟩) (c23 : PySem.W.codeIn K cd23 "_law_play" = true) (k23 : PySem.W.keepIn K (.ref f23) = true)
    (a24 : PySem.W.nsIn K mainGlobals "_law_turn_letters" = some (some (.ref f24))) (l24 : K.lookup f24 = some ⟨oc24, od24, .func (PySem.W.fnOf "_law_turn_letters" "_law_turn_letters" (defArgs s_law_turn_letters) (defBody s_law_turn_letters) (defScope s_law_turn_letters) .none kV24 dc24 pm24 an24 cd24 ct24), sl24⟩) (c24 : PySem.W.codeIn K cd24 "_law_turn_letters" = true) (k24 : PySem.W.keepIn K (.ref f24) = true)
    (a25 : PySem.W.nsIn K mainGlobals "_law_outcome" = some (some (.ref f25))) (l25 : K.lookup f25 = some ⟨oc25, od25, .func (PySem.W.fnOf "_law_outcome" "_law_outcome" (defArgs s_law_outcome) (defBody s_law_outcome) (defScope s_law_outcome) .none kV25 dc25 pm25 an25 cd25 ct25), sl25⟩) (c25 : PySem.W.codeIn K cd25 "_law_outcome" = true) (k25 : PySem.W.keepIn K (.ref f25) = true)
    (a26 : PySem.W.nsIn K mainGlobals "law" = some (some (.ref f26))) (l26 : K.lookup f26 = some ⟨oc26, od26, .func (PySem.W.fnOf "law" "law" (defArgs s_law) (defBody s_law) (defScope s_law) .none kV26 dc26 pm26 an26 cd26 ct26), sl26⟩) (c26 : PySem.W.codeIn K cd26 "law" = true) (k26 : PySem.W.keepIn K (.ref f26) = true)
    (z0 : PySem.W.nsIn K mainGlobals "bool" = some none) (z1 : PySem.W.nsIn K mainGlobals "int" = some none) (z2 : PySem.W.nsIn K mainGlobals "isinstance" = some none) (z3 : PySem.W.nsIn K mainGlobals "len" = some none) (z4 : PySem.W.nsIn K mainGlobals "list" = some none) (z5 : PySem.W.nsIn K mainGlobals "max" = some none) (z6 : PySem.W.nsIn K mainGlobals "range" = some none) (z7 : PySem.W.nsIn K mainGlobals "tuple" = some none) (xa : PySem.W.nsIn K mainGlobals "InvalidMachine" = some (some (.ref cI))) (xb : PySem.W.excIn K cI [.type "ValueError", .type "Exception", .type "BaseException", .type "object"] "ValueError.__new__" = true) (xc : PySem.W.keepIn K (.ref cI) = true) (xd : PySem.W.typeIn K (.ref cI) = some (.type "type")) (xe : PySem.W.subIn K (.ref cI) (.ref cI) = some true) (xf : PySem.W.findIn K (.ref cI) "__getattribute__" = some (some (.builtin "BaseException.__getattribute__"))) (xg : PySem.W.findIn K (.ref cI) "__getattr__" = some none) (xh : PySem.W.subIn K (.ref cI) (.type "BaseException") = some true) (xi : PySem.W.hasDictIn K cI = true) (xj : PySem.W.findIn K (.ref cI) "__class__" = some (some (.builtin "object.__class__"))) (xk : PySem.W.specialIn K (.builtin "object.__class__") "__get__" = some (some (.builtin "getset_descriptor.__get__"))) (xl : PySem.W.takesIn K (.builtin "object.__class__") = some true) (xm : PySem.W.mroIn K cI (.type "object") = some true) (wa : PySem.W.nsIn K mainGlobals "InvalidLetter" = some (some (.ref cL))) (wb : PySem.W.excIn K cL [.type "ValueError", .type "Exception", .type "BaseException", .type "object"] "ValueError.__new__" = true) (wc : PySem.W.keepIn K (.ref cL) = true) (wd : PySem.W.typeIn K (.ref cL) = some (.type "type")) (we : PySem.W.subIn K (.ref cL) (.ref cL) = some true) (wf : PySem.W.findIn K (.ref cL) "__getattribute__" = some (some (.builtin "BaseException.__getattribute__"))) (wg : PySem.W.findIn K (.ref cL) "__getattr__" = some none) (wh : PySem.W.subIn K (.ref cL) (.type "BaseException") = some true) (wi : PySem.W.hasDictIn K cL = true) (wj : PySem.W.findIn K (.ref cL) "__class__" = some (some (.builtin "object.__class__"))) (wk : PySem.W.specialIn K (.builtin "object.__class__") "__get__" = some (some (.builtin "getset_descriptor.__get__"))) (wl : PySem.W.takesIn K (.builtin "object.__class__") = some true) (wm : PySem.W.mroIn K cL (.type "object") = some true) (ya : PySem.W.nsIn K mainGlobals "Machine" = some (some (.ref C))) (yb : PySem.W.plainGet K C Str.empty = true) (yc : PySem.W.hasDictIn K C = true) (yd : PySem.W.plainOver K C = true) (ye : PySem.W.findIn K (.ref C) "__setattr__" = some (some (.builtin "object.__setattr__"))) (yf : PySem.W.findIn K (.ref C) "inputs" = some none) (yg : PySem.W.findIn K (.ref C) "outputs" = some none) (yh : PySem.W.findIn K (.ref C) "lead" = some none) (yi : PySem.W.findIn K (.ref C) "opening" = some none) (yi2 : PySem.W.findIn K (.ref C) "rows" = some none) (yj : PySem.W.makesIn K C = true) (yk : PySem.W.findIn K (.ref C) "__init__" = some (some (.ref fI))) (yl : PySem.W.isFn K (.ref fI) = true) (ym : PySem.W.keepIn K (.ref C) = true) (yn : K.lookup fI = some ⟨ocI, odI, .func (PySem.W.fnOf "__init__" "Machine.__init__" (defArgs s_Machine_init) (defBody s_Machine_init) (defScope s_Machine_init) .none kVI dcI pmI anI cdI ctI), slI⟩) (yo : PySem.W.codeIn K cdI "Machine.__init__" = true) (yp : PySem.W.keepIn K (.ref fI) = true) (yq : PySem.W.findIn K (.ref C) "__call__" = some (some (.ref fC))) (yr : PySem.W.isFn K (.ref fC) = true) (ys : PySem.W.fnIn K fC = true) (yt : K.lookup fC = some ⟨ocJ, odJ, .func (PySem.W.fnOf "__call__" "Machine.__call__" (defArgs s_Machine_call) (defBody s_Machine_call) (defScope s_Machine_call) .none kVJ dcJ pmJ anJ cdJ ctJ), slJ⟩) (yu : PySem.W.codeIn K cdJ "Machine.__call__" = true) (yv : PySem.W.keepIn K (.ref fC) = true) (ga : PySem.W.nsIn K mainGlobals "LEAST_LEAD" = some (some (.int (-3) tk1))) (gb : PySem.W.nsIn K mainGlobals "GREATEST_LEAD" = some (some (.int 2 tk2))) (gc : PySem.W.nsIn K mainGlobals "lcm" = some (some (.builtin "math.lcm"))) (va : PySem.W.nsIn K mainGlobals "Mismatch" = some (some (.ref cX))) (vb : PySem.W.excIn K cX [.type "ValueError", .type "Exception", .type "BaseException", .type "object"] "ValueError.__new__" = true) (vc : PySem.W.keepIn K (.ref cX) = true) (vd : PySem.W.typeIn K (.ref cX) = some (.type "type")) (ve : PySem.W.subIn K (.ref cX) (.ref cX) = some true) (vf : PySem.W.findIn K (.ref cX) "__getattribute__" = some (some (.builtin "BaseException.__getattribute__"))) (vg : PySem.W.findIn K (.ref cX) "__getattr__" = some none) (vh : PySem.W.subIn K (.ref cX) (.type "BaseException") = some true) (vi : PySem.W.hasDictIn K cX = true) (vj : PySem.W.findIn K (.ref cX) "__class__" = some (some (.builtin "object.__class__"))) (vk : PySem.W.specialIn K (.builtin "object.__class__") "__get__" = some (some (.builtin "getset_descriptor.__get__"))) (vl : PySem.W.takesIn K (.builtin "object.__class__") = some true) (vm : PySem.W.mroIn K cX (.type "object") = some true) :
    ∃ fd : FuncData, (∀ (s : Shared) (v : Value), BindsTo s fd ⟨[v], []⟩ [("script", v)]) ∧ ∀ base : Heap, K.In base → base.Ns mainGlobals mg → FnOk l.prog w K mg base CX0 8 fa fd ["script"] (spLaw K) := by
  have e := hfa.symm.trans (PySem.W.mg_of X G a26)
  cases e
  have T : Txt K mg := ⟨⟨f0, _, fun_mk (st := s_shortest_lasso) l0 c0 k0, PySem.W.mg_of X G a0, (fun_mk (st := s_shortest_lasso) l0 c0 k0).binds fun _ _ _ _ _ _ us hl => match us, hl with | [_, _], _ => rfl⟩, ⟨f1, _, fun_mk (st := s_shortest_period) l1 c1 k1, PySem.W.mg_of X G a1, (fun_mk (st := s_shortest_period) l1 c1 k1).binds fun _ _ _ _ _ _ us hl => match us, hl with | [_], _ => rfl⟩, ⟨f2, _, fun_mk (st := s_letter_at) l2 c2 k2, PySem.W.mg_of X G a2, (fun_mk (st := s_letter_at) l2 c2 k2).binds fun _ _ _ _ _ _ us hl => match us, hl with | [_, _], _ => rfl⟩, ⟨f3, _, fun_mk (st := s_suffix) l3 c3 k3, PySem.W.mg_of X G a3, (fun_mk (st := s_suffix) l3 c3 k3).binds fun _ _ _ _ _ _ us hl => match us, hl with | [_, _], _ => rfl⟩, ⟨f4, _, fun_mk (st := s_check_letters) l4 c4 k4, PySem.W.mg_of X G a4, (fun_mk (st := s_check_letters) l4 c4 k4).binds fun _ _ _ _ _ _ us hl => match us, hl with | [_, _], _ => rfl⟩, ⟨f5, _, fun_mk (st := s_combine) l5 c5 k5, PySem.W.mg_of X G a5, (fun_mk (st := s_combine) l5 c5 k5).binds fun _ _ _ _ _ _ us hl => match us, hl with | [_, _, _], _ => rfl⟩, ⟨f6, _, fun_mk (st := s_play) l6 c6 k6, PySem.W.mg_of X G a6, (fun_mk (st := s_play) l6 c6 k6).binds fun _ _ _ _ _ _ us hl => match us, hl with | [_, _], _ => rfl⟩, ⟨f7, _, fun_mk (st := s_exchange) l7 c7 k7, PySem.W.mg_of X G a7, (fun_mk (st := s_exchange) l7 c7 k7).binds fun _ _ _ _ _ _ us hl => match us, hl with | [_, _], _ => rfl⟩, ⟨f8, _, fun_mk (st := s_check_rows) l8 c8 k8, PySem.W.mg_of X G a8, (fun_mk (st := s_check_rows) l8 c8 k8).binds fun _ _ _ _ _ _ us hl => match us, hl with | [_, _], _ => rfl⟩, ⟨f9, _, fun_mk (st := s_check_said) l9 c9 k9, PySem.W.mg_of X G a9, (fun_mk (st := s_check_said) l9 c9 k9).binds fun _ _ _ _ _ _ us hl => match us, hl with | [_, _], _ => rfl⟩, ⟨f10, _, fun_mk (st := s_run) l10 c10 k10, PySem.W.mg_of X G a10, (fun_mk (st := s_run) l10 c10 k10).binds fun _ _ _ _ _ _ us hl => match us, hl with | [_, _, _], _ => rfl⟩, ⟨f11, _, fun_mk (st := s_respond) l11 c11 k11, PySem.W.mg_of X G a11, (fun_mk (st := s_respond) l11 c11 k11).binds fun _ _ _ _ _ _ us hl => match us, hl with | [_, _], _ => rfl⟩, ⟨f12, _, fun_mk (st := s_trace) l12 c12 k12, PySem.W.mg_of X G a12, (fun_mk (st := s_trace) l12 c12 k12).binds fun _ _ _ _ _ _ us hl => match us, hl with | [_, _], _ => rfl⟩, ⟨f13, _, fun_mk (st := s_law_draws) l13 c13 k13, PySem.W.mg_of X G a13, (fun_mk (st := s_law_draws) l13 c13 k13).binds fun _ _ _ _ _ _ us hl => match us, hl with | [_, _], _ => rfl⟩, ⟨f14, _, fun_mk (st := s_law_take) l14 c14 k14, PySem.W.mg_of X G a14, (fun_mk (st := s_law_take) l14 c14 k14).binds fun _ _ _ _ _ _ us hl => match us, hl with | [_, _], _ => rfl⟩, ⟨f15, _, fun_mk (st := s_law_is_integer) l15 c15 k15, PySem.W.mg_of X G a15, (fun_mk (st := s_law_is_integer) l15 c15 k15).binds fun _ _ _ _ _ _ us hl => match us, hl with | [_], _ => rfl⟩, ⟨f16, _, fun_mk (st := s_law_integers) l16 c16 k16, PySem.W.mg_of X G a16, (fun_mk (st := s_law_integers) l16 c16 k16).binds fun _ _ _ _ _ _ us hl => match us, hl with | [_, _, _], _ => rfl⟩, ⟨f17, _, fun_mk (st := s_law_normal) l17 c17 k17, PySem.W.mg_of X G a17, (fun_mk (st := s_law_normal) l17 c17 k17).binds fun _ _ _ _ _ _ us hl => match us, hl with | [_], _ => rfl⟩, ⟨f18, _, fun_mk (st := s_law_is_lasso) l18 c18 k18, PySem.W.mg_of X G a18, (fun_mk (st := s_law_is_lasso) l18 c18 k18).binds fun _ _ _ _ _ _ us hl => match us, hl with | [_, _], _ => rfl⟩, ⟨f19, _, fun_mk (st := s_law_at) l19 c19 k19, PySem.W.mg_of X G a19, (fun_mk (st := s_law_at) l19 c19 k19).binds fun _ _ _ _ _ _ us hl => match us, hl with | [_, _], _ => rfl⟩, ⟨f20, _, fun_mk (st := s_law_same) l20 c20 k20, PySem.W.mg_of X G a20, (fun_mk (st := s_law_same) l20 c20 k20).binds fun _ _ _ _ _ _ us hl => match us, hl with | [_, _], _ => rfl⟩, ⟨f21, _, fun_mk (st := s_law_flat) l21 c21 k21, PySem.W.mg_of X G a21, (fun_mk (st := s_law_flat) l21 c21 k21).binds fun _ _ _ _ _ _ us hl => match us, hl with | [_], _ => rfl⟩, ⟨f22, _, fun_mk (st := s_law_machine) l22 c22 k22, PySem.W.mg_of X G a22, (fun_mk (st := s_law_machine) l22 c22 k22).binds fun _ _ _ _ _ _ us hl => match us, hl with | [_, _, _, _, _], _ => rfl⟩, ⟨f23, _, fun_mk (st := s_law_play) l23 c23 k23, PySem.W.mg_of X G a23, (fun_mk (st := s_law_play) l23 c23 k23).binds fun _ _ _ _ _ _ us hl => match us, hl with | [_, _, _, _, _, _], _ => rfl⟩, ⟨f24, _, fun_mk (st := s_law_turn_letters) l24 c24 k24, PySem.W.mg_of X G a24, (fun_mk (st := s_law_turn_letters) l24 c24 k24).binds fun _ _ _ _ _ _ us hl => match us, hl with | [_, _, _], _ => rfl⟩, ⟨f25, _, fun_mk (st := s_law_outcome) l25 c25 k25, PySem.W.mg_of X G a25, (fun_mk (st := s_law_outcome) l25 c25 k25).binds fun _ _ _ _ _ _ us hl => match us, hl with | [_, _], _ => rfl⟩, PySem.W.mg_none_of X G z0, PySem.W.mg_none_of X G z1, PySem.W.mg_none_of X G z2, PySem.W.mg_none_of X G z3, PySem.W.mg_none_of X G z4, PySem.W.mg_none_of X G z5, PySem.W.mg_none_of X G z6, PySem.W.mg_none_of X G z7, ⟨cX, cI, cL, C, fI, fC, _, _, tk1, tk2, ⟨PySem.W.mg_of X G va, vb, vc, vd, ve, ⟨vf, vg, vh, vi, vj, vk, vl, vm⟩⟩, ⟨PySem.W.mg_of X G xa, xb, xc, xd, xe, ⟨xf, xg, xh, xi, xj, xk, xl, xm⟩⟩, ⟨PySem.W.mg_of X G wa, wb, wc, wd, we, ⟨wf, wg, wh, wi, wj, wk, wl, wm⟩⟩, ⟨⟨yb, yc, yd, ye⟩, yf, yg, yh, yi, yi2⟩, ⟨yj, yk, yl, ym⟩, PySem.W.mg_of X G ya, fun_mk (st := s_Machine_init) yn yo yp, (fun_mk (st := s_Machine_init) yn yo yp).binds fun _ _ _ _ _ _ us hl => match us, hl with | [_, _, _, _, _, _], _ => rfl, ⟨yq, yr, ys⟩, fun_mk (st := s_Machine_call) yt yu yv, (fun_mk (st := s_Machine_call) yt yu yv).binds fun _ _ _ _ _ _ us hl => match us, hl with | [_, _], _ => rfl, PySem.W.mg_of X G ga, PySem.W.mg_of X G gb, PySem.W.mg_of X G gc⟩⟩
  exact ⟨_, fun s v => .of_eq rfl, fun base _ _ => ok_law (fun_mk (st := s_law) l26 c26 k26) T⟩
end My
open PySem PySem.W PyProof.Rows
set_option maxHeartbeats 0 in
theorem PySem.Challenge.cw_reactivesynth_k40_play_holds : PySem.Challenge.rw_reactivesynth_k40_play.Holds := by
  w_on; o_law; k_head; (case hw => w_witness2)
  k_fill
  refine L2.walk_of (l := PySem.Challenge.rw_reactivesynth_k40_play) (n := 63) (k := 8) (x := "script") (CX := fun _ => L2.CX0) (sp := fun w => My.spLaw _) rfl (by decide) rfl ⟨rfl, by decide, by decide⟩ (fun w h Y => PySem.W.kIn_of Y) ?F (fun _ _ a ns hl _ hS => ⟨a, ns, rfl, hS, hl, fun _ => rfl⟩) (fun _ _ _ _ _ h => h)
  case F =>
    intro w mg fa h KX G hmg
    refine' My.all_mk KX G hmg ?a0 ?l0 ?c0 ?k0 ?a1 ?l1 ?c1 ?k1 ?a2 ?l2 ?c2 ?k2 ?a3 ?l3 ?c3 ?k3 ?a4 ?l4 ?c4 ?k4 ?a5 ?l5 ?c5 ?k5 ?a6 ?l6 ?c6 ?k6 ?a7 ?l7 ?c7 ?k7 ?a8 ?l8 ?c8 ?k8 ?a9 ?l9 ?c9 ?k9 ?a10 ?l10 ?c10 ?k10 ?a11 ?l11 ?c11 ?k11 ?a12 ?l12 ?c12 ?k12 ?a13 ?l13 ?c13 ?k13 ?a14 ?l14 ?c14 ?k14 ?a15 ?l15 ?c15 ?k15 ?a16 ?l16 ?c16 ?k16 ?a17 ?l17 ?c17 ?k17 ?a18 ?l18 ?c18 ?k18 ?a19 ?l19 ?c19 ?k19 ?a20 ?l20 ?c20 ?k20 ?a21 ?l21 ?c21 ?k21 ?a22 ?l22 ?c22 ?k22 ?a23 ?l23 ?c23 ?k23 ?a24 ?l24 ?c24 ?k24 ?a25 ?l25 ?c25 ?k25 ?a26 ?l26 ?c26 ?k26 ?z0 ?z1 ?z2 ?z3 ?z4 ?z5 ?z6 ?z7 ?xa ?xb ?xc ?xd ?xe ?xf ?xg ?xh ?xi ?xj ?xk ?xl ?xm ?wa ?wb ?wc ?wd ?we ?wf ?wg ?wh ?wi ?wj ?wk ?wl ?wm ?ya ?yb ?yc ?yd ?ye ?yf ?yg ?yh ?yi ?yi2 ?yj ?yk ?yl ?ym ?yn ?yo ?yp ?yq ?yr ?ys ?yt ?yu ?yv ?ga ?gb ?gc ?va ?vb ?vc ?vd ?ve ?vf ?vg ?vh ?vi ?vj ?vk ?vl ?vm
    (case a0 => k_is); (case l0 => k_is); (case c0 => k_is); (case k0 => k_is); (case a1 => k_is); (case l1 => k_is); (case c1 => k_is); (case k1 => k_is); (case a2 => k_is); (case l2 => k_is); (case c2 => k_is); (case k2 => k_is); (case a3 => k_is); (case l3 => k_is); (case c3 => k_is); (case k3 => k_is); (case a4 => k_is); (case l4 => k_is); (case c4 => k_is); (case k4 => k_is); (case a5 => k_is); (case l5 => k_is); (case c5 => k_is); (case k5 => k_is); (case a6 => k_is); (case l6 => k_is); (case c6 => k_is); (case k6 => k_is); (case a7 => k_is); (case l7 => k_is); (case c7 => k_is); (case k7 => k_is); (case a8 => k_is); (case l8 => k_is); (case c8 => k_is); (case k8 => k_is); (case a9 => k_is); (case l9 => k_is); (case c9 => k_is); (case k9 => k_is); (case a10 => k_is); (case l10 => k_is); (case c10 => k_is); (case k10 => k_is); (case a11 => k_is); (case l11 => k_is); (case c11 => k_is); (case k11 => k_is); (case a12 => k_is); (case l12 => k_is); (case c12 => k_is); (case k12 => k_is); (case a13 => k_is); (case l13 => k_is); (case c13 => k_is); (case k13 => k_is); (case a14 => k_is); (case l14 => k_is); (case c14 => k_is); (case k14 => k_is); (case a15 => k_is); (case l15 => k_is); (case c15 => k_is); (case k15 => k_is); (case a16 => k_is); (case l16 => k_is); (case c16 => k_is); (case k16 => k_is); (case a17 => k_is); (case l17 => k_is); (case c17 => k_is); (case k17 => k_is); (case a18 => k_is); (case l18 => k_is); (case c18 => k_is); (case k18 => k_is); (case a19 => k_is); (case l19 => k_is); (case c19 => k_is); (case k19 => k_is); (case a20 => k_is); (case l20 => k_is); (case c20 => k_is); (case k20 => k_is); (case a21 => k_is); (case l21 => k_is); (case c21 => k_is); (case k21 => k_is); (case a22 => k_is); (case l22 => k_is); (case c22 => k_is); (case k22 => k_is); (case a23 => k_is); (case l23 => k_is); (case c23 => k_is); (case k23 => k_is); (case a24 => k_is); (case l24 => k_is); (case c24 => k_is); (case k24 => k_is); (case a25 => k_is); (case l25 => k_is); (case c25 => k_is); (case k25 => k_is); (case a26 => k_is); (case l26 => k_is); (case c26 => k_is); (case k26 => k_is); (case z0 => k_is); (case z1 => k_is); (case z2 => k_is); (case z3 => k_is); (case z4 => k_is); (case z5 => k_is); (case z6 => k_is); (case z7 => k_is); (case xa => first | rfl | k_is); (case xb => first | k_exc | rfl | k_is); (case xc => first | rfl | k_is); (case xd => first | rfl | k_is); (case xe => first | rfl | k_is); (case xf => first | rfl | k_is); (case xg => first | rfl | k_is); (case xh => first | rfl | k_is); (case xi => first | rfl | k_is); (case xj => first | rfl | k_is); (case xk => first | rfl | k_is); (case xl => first | rfl | k_is); (case xm => first | rfl | k_is); (case wa => k_is); (case wb => first | k_exc | rfl | k_is); (case wc => k_is); (case wd => k_is); (case we => k_is); (case wf => k_is); (case wg => k_is); (case wh => k_is); (case wi => k_is); (case wj => k_is); (case wk => k_is); (case wl => k_is); (case wm => k_is); (case ya => k_is); (case yb => k_is); (case yc => k_is); (case yd => k_is); (case ye => k_is); (case yf => k_is); (case yg => k_is); (case yh => k_is); (case yi => k_is); (case yi2 => k_is); (case yj => k_is); (case yk => k_is); (case yl => k_is); (case ym => k_is); (case yn => k_is); (case yo => k_is); (case yp => k_is); (case yq => k_is); (case yr => k_is); (case ys => k_is); (case yt => k_is); (case yu => k_is); (case yv => k_is); (case ga => k_is); (case gb => k_is); (case gc => k_is); (case va => k_is); (case vb => first | k_exc | rfl | k_is); (case vc => k_is); (case vd => k_is); (case ve => k_is); (case vf => k_is); (case vg => k_is); (case vh => k_is); (case vi => k_is); (case vj => k_is); (case vk => k_is); (case vl => k_is); (case vm => k_is)
